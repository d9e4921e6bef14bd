import PyProof.Rows.All
import Wide.All
import OpenK.AllK
import Wide.FinOn
import Lean
import PyProof.EqAt
import PyProof.EqKinds
import PyProof.TupleCall
import PyProof.NeKinds
import PyProof.TupleKey
import PyProof.DictRoadsH
import PySem.SetTable
import PyProof.SetRoads
import PyProof.DictKeyH
import PyProof.IsRules
import PyProof.Rows.SetFrom
import PyProof.WalksMore
import PyProof.ListMulRoad
import PyProof.FactsAll.subtypes_4
import PyProof.Rows.ListMulArg
import PyProof.ZipIter
import PyProof.WalksEnum
import PyProof.EnumMake
import PyProof.DictItems
import PyProof.DictValues
import PyProof.DictWalks
import PyProof.FactsAll.dict_itemiterator
import PyProof.Rows.SortShell
import PyProof.Rows.SortWalk
import KE.KSortTup
import KE.KDictList
import PyProof.AutoListH
import PyProof.SumWalk
import PyProof.WalkInts
import PySem.Challenge.RW_hushcards_k73_known_least_ones
noncomputable section
abbrev hG:=@decide_eq_true
abbrev hJ:=@decide_eq_false
abbrev hV.{u}:=@if_neg.{u}
abbrev hZ.{u}:=@if_pos.{u}
set_option Elab.async false
set_option linter.all false
set_option maxRecDepth 100000
set_option maxHeartbeats 4000000
open PySem renaming wpAny_bind->ZE,wpAny_pure->ZJ,sizeLine->ZL,Value->ZR,Shared->Z5,starEach->Z8,Addr->Z_,wpAny->aac,model->aan,mem_of_lookup->aas,wpAny_call_entry->aat,wpAny_newObj_type->aav,Around->aaC,mainGlobals->aaF,wpAny_callSpecial?_slot->aaG,wpAny_mono->aaM,bootBuiltins->aaO,wpAny_setState_of->aaZ,wpAny_setField_rec->aa3,wpAny_holding->aa9,assignEach->abf,foldedSetIterable->abn,cLine->abo,sizeLine_eq->abv,sysModules->abC,wpAny_field->abF,Expr->abH,compareOp->abK,wpAny_typeNameOfWhole_itemiter->abN,wpAny_askSetting->abS,wpAny_typeNameOfWhole_keyiter->abT,backTo->abW,cellsFrom->abZ,codeAny_builtin->ab0,wpAny_attempt->aca,wpAny_setField->ace,firstArgMember->acf,wpAny_typeNameOf_itemiter->acg,wpAny_passesOwn->aci,wpAny_dictEntries->aco,wpAny_typeNameOf_keyiter->acp,World->acs,wpAny_isInstance->acv,Heap->acz,IsItemIter->acB,Program->acC,eval->acD,wpAny_specialOf->acH,wpAny_of_eq->acM,wpAny_dictEpoch->acQ,binaryOp->acS,behindInMarks->acT,attributeBase->acV,wpAny_pyIter_slot->ac1,swapsWith->ac3,wpAny_fieldsOf->ac8,SetTable->ac_,Stmt->adh,holding->adi,pyNext->adm,start->adp,wpAny_pyIter_tuple->ads,Keyword->adu,NameKind->adw,DictEntry->ady,tupleKind_room_in1->adz,HeapKind->adC,wpAny_isOneOf_itemiter->adN,keywordEach->adR,assign->ad3,codeAny_mono->ad4,wpAny_eqBool_int->aeb,rawInt->aeg,FuncData->aeh,Scope->aei,call_meets->aem,wpAny_execs_nil->aeo,letOwnedTupleGo->aep,wpAny_setEntries_of->aev,wpAny_Call_Name_kw->aeF,setField->aeN,isSubtype_stop->aeR,Paired->aeT,tupleKind->aeU,wpAny_truthy_bool->aeW,wpAny_pyIter_list->aeX,seqIndex?->aeZ,wpAny_collect_seq->ae1,PassesOwn->ae8,pickOrder->ae9
open List renaming length_map->ZF,mem_cons_self->ZG,getElem?_eq_getElem->ZH,map_cons->ZI,mem_cons_of_mem->ZK,mem_map->ZO,getElem?_eq_some_iff->ZQ,getElem?_map->ZT,range->ZU,getD_eq_getElem?_getD->ZV,mem_cons->ZX,map_map->ZY,size_toArray->ZZ,length_cons->Z0,mem_singleton->Z1,map_congr_left->Z2,length_append->Z3,mem_range->Z6,mem_append_right->Z9,length_range->aaa,map_append->aad,sum_cons->aaf,all_eq_true->aag,take_succ_eq_append_getElem->aai,getElem?_set_ne->aal,mem_append->aam,getElem_mem->aau,nodup_cons->aax,lookup_cons->aaA,mem_map_of_mem->aaB,mem_append_left->aaE,zipWith_cons_cons->aaH,map_nil->aaI,length_set->aaJ,drop_eq_getElem_cons->aaL,getElem?_cons_succ->aaR,pairwise_singleton->aaS,getElem?_range->aaT,append_nil->aaW,find?_cons->aaX,getElem?_eq_none_iff->aaY,mem_of_getElem?->aa1,getElem?_set_self->aa2,mem_filter->aa5,take_length->aa7,mem_flatMap->aa8,nodup_append->aa_,zipWith->abe,replicate->abg,nodup_nil->abi,length_take->abk,mem_nil_iff->abl,length_singleton->abp,pairwise_cons->abx,append_assoc->abD,pairwise_map->abE,flatMap_cons->abG,getElem?_append_left->abI,length_nil->abM,length_zipWith->ab1,replicate_succ->ab2,getElem?_append_right->ab4,cons_append->ab6,any_eq_true->ab7,all_cons->acu,drop_length->acw,not_mem_nil->acx,eq_nil_of_length_eq_zero->acy,nil_append->acJ,ext_getElem?->acZ,mem_iff_getElem->ac2,drop_zero->ac6,nodup_range->ada,getElem_map->adf,filter_cons->adg,forIn_cons->adB,getElem_range->adD,foldl_cons->adE,length_zip->adG,range_succ_eq_map->adM,length_pos_of_mem->adO,flatten_cons->adW,length_replicate->ad5,take_append_drop->ad7,length_filter_le->aea,ext_getElem->aef,filterMap_cons->aen,of_mem_zip->aeq,getD->aet,perm_ext_iff_of_nodup->aeA,mem_filterMap->aeD,pairwise_iff_getElem->aeQ,exists_mem_of_ne_nil->aeS,getElem?_take_of_lt->aeY,filterMap_cons_some->ae2,foldl_append->ae4,Nodup->ae_
open Bool renaming false_ne_true->ZM,and_eq_true->Z7,false_eq_true->aaq,eq_iff_iff->aaw,not_true->aaz,not_false->abu,or_eq_false_iff->ach,or_eq_true->ack,eq_false_iff->acW,and_false->ac5,not_eq_true'->ae7
open PySem.W renaming Frag->ZN,mg_none_of->aaK,fnOf->abA,nsIn->abB,keepIn->acA,findIn->ac4,codeIn->aeO,methodObj->aeV
open PySem.Heap renaming get?_push_of_some->ZP,get?_push_size->ZW,lt_size->Z4,SameBut->aa0,size_push->abJ,get?_update_self->abL
open Nat renaming le_refl->ZS,ne_of_lt->aah,lt_of_lt_of_le->aak,le_trans->aaP,lt_irrefl->aaQ,mul_comm->aa6,mul_assoc->aba,zero_le->abc,zero_add->abd,lt_of_le_of_lt->abw,le_of_lt_succ->abX,le_add_right->ab8,ne_of_gt->ab9,pow_succ->ab_,gcd->acE,lt_trans->acG,succ_pos->acK,lt_or_ge->acL,lt_succ_of_lt->acY,mod_lt->ac0,mul_left_comm->adT,lt_trichotomy->adV,le_of_lt->ad2,add_assoc->aej,add_comm->aeK,add_zero->aeL,gcd_pos_of_pos_right->ae6
open Option.some renaming inj->aab
open Array renaming getElem?_eq_getElem->aae,getElem?_toList->aaj,length_toList->aao,getElem?_eq_some_iff->aaD,getElem?_eq_none->ab3,getD->adU,perm_iff_toList_perm->aeB,forIn_toList->aeJ
open PySem.PassesOwn renaming never->aap
open Int renaming toNat_natCast->aar,mul_assoc->abb,emod_lt_of_pos->abP,emod_nonneg->acn,mul_nonneg->ac9,mul_comm->ado,le_refl->ad0,natCast_ediv->aee,mul_pos->aex,eq_of_mul_eq_mul_right->aeC,zero_add->aeM
open PySem.Str renaming ofString->aay
open PyProof.Rows renaming arrOf->aaN,wpS_bind->aa4,SortSt->abm,wpS_pure->abR,callWith_type1->abY,pendingOf->acq,kindOf->acF,Keyed->adP,IntsAre->adQ,pairsOf_toList->ad1,wpS_forRange->ad_,reverseSlice'->ael,envOfC->aeG,seqObj->aeI
open PySem.Heap.SameBut renaming update->aaU
open PySem.F renaming plainAttrs_list->aaV,slot_list_append->abq,type_list_append->abr,slot_dict_itemiterator_next->abU,slot_dict_keyiterator_next->abV,slot_tuple_iterator_next->ab5,slot_dict_get->acI,slot_enumerate_next->acO,args_tuple_add_2->adn,entry_tuple_add->adx,args_dict_get_3->adA,slot_tuple_add->adJ,entry_dict_get->adL,args_dict_itemiterator_next_1->adY,args_dict_keyiterator_next_1->ad8,entry_dict_itemiterator_next->ad9,entry_dict_keyiterator_next->aec,slot_dict_itemiterator_iter->aed,args_tuple_iterator_next_1->aek,entry_tuple_iterator_next->aeu,slot_tuple_index->ae5
open PySem.Builtin.Tuple renaming tupleHashOf->abh,tupleItemsOf->aez,tupleExact->ae0
open List.Perm renaming refl->abj,append_left->ad6
open PySem.Builtin.Dict_items renaming ownsTuple->abt,ownedTupleFields->adk,ownedTupleIsFree->adl,pairFromOwner->adI
open PySem.Obj renaming data_mapFields->aby,isFreed_of_fields->acN,mapSeq->acU,cls_mapFields->adX,putSet->ae3
open PySem.Around renaming under_plainId->abz
open PyProof.Rows.KeyOrd renaming kle_refl->abO,kle_trans->adb,kle_of_klt->adZ
open PySem.AutoSeq1 renaming wpAny_loadPart'->abQ
open Classical renaming byContradiction->acb
open PySem.Builtin.SmallTypes renaming nextOf->acd,ownedTupleHandOut->ac7,ownedTupleIsFree->adj
open PySem.Builtin.List renaming listTooLong->acj,listExtendWith->aes,listLengthHint->aew
open List.Pairwise renaming imp_of_mem->acm
open List.Nodup renaming length_le_of_subset->acr
open PySem.Builtin.Dict renaming showsAll->acP
open False renaming elim->acR
open PySem.SeqAt renaming EqAt->acX
open Option renaming getD_some->ade,isSome_map->adS
open PySem.Paired renaming length->adq
open PySem.Builtin.Range renaming rangeSize->adt
open PyProof.Rows.F renaming plain_set_update_loop->adF
open Nat.Coprime renaming dvd_of_dvd_mul_right->adH
open PySem.Calls renaming callWith_builtin->adK,Name_function_global->aey,spliced_cons->aeE,call_function_entry->aeP
open PySem.SeqAt.EqAt renaming same->aer,of_refs->aeH
open PySem PySem.Spec PyProof.Rows
variable {a b it f:Z_}{o ns ds:List Int}{P q prog:acC}{w:acs}{h h':acz}{t' i j k n p m mask kt ep nd:Nat}{ch fp L L':List Z_}{x qual:Str}{N ps loose:List Str}{M:Model}{A:Z_->Prop}{E Q:ZR->Z5->Prop}{t:ac_}{s:Z5}{pins:List (Z_×Obj)}{c tg iter elt:abH}{K:ZN}{st:adh}{g:Int×Int}{body:List adh}{l:Array adP}{op:CmpOp}{C:Nat->Option (Int×ZR)}{mg:Str->Option ZR}{fd:aeh}{scope:aei}{aD:List ZR}{XP:(Str->Option ZR)->acz->Prop}{YP:acs->acz->Prop}{env:Env}{vg elts:List abH}{js:List (Option Nat)}{tp:Pos}{ss rows:List (List Int)}{ms:List (List (List Int))}
namespace L2
def gb (s:adh):Arguments:=match s with
 | .FunctionDef _ a _ _ _ _ _ _ _ _=>a
 |_=>{posonlyargs:=[],args:=[],vararg:=none,kwonlyargs:=[],kw_defaults:=[],kwarg:=none,defaults:=[]}
def cP (s:adh):List adh:=match s with
 | .FunctionDef _ _ b _ _ _ _ _ _ _=>b
 |_=>[]
def ao (s:adh):aei:=match s with
 | .FunctionDef _ _ _ _ _ _ sc _ _ _=>sc
 |_=>{kind:=.function,names:=[],isGenerator:=false,isCoroutine:=false}
end L2
namespace Hc
open L2
def top (i:Nat):adh:=PySem.Challenge.pw_hushcards_k73_known_least_ones.main.body.getD i (.Pass ⟨0,0,0,0⟩)
abbrev hS (s:String)(n:Nat):ZR:=.str (aay s) n
abbrev hE (P:Params)(s:String)(n:Nat)(v:ZR):ady:=⟨PyData.keyHash P (aay s),hS s n,v⟩
abbrev hD (c:ZR)(l:List ady)(n:Nat):Obj:=⟨c,none,.dict l.toArray n,#[]⟩
abbrev hX (c:ZR)(l:List ZR):Obj:=⟨c,none,.fields l.toArray,#[]⟩
abbrev hC (n q:String)(a:Nat)(l k:Int)(r r1:Nat)(v1 v2:ZR)(r2:Nat)(m:Int)(m':Nat):Obj:=hX (.type "code") [hS n a,hS q (a+1),hS "/claim/cut.py" (a+2),.int l 0,.int k 0,.int 0 0,.int 0 0,.int 3 0,.ref r,.bool true,.int 181 0,.ref r1,.none,v1,v2,.ref r2,.int m 0,.int l 0,hS "/claim/cut.py" m']
abbrev hF (n q:String)(s:adh)(kV pK pm:ZR)(an:Option Z_)(cd ct:ZR):Obj:=⟨.type "function",none,.func (abA n q (gb s) (cP s) (ao s) .none kV pK pm an cd ct),#[]⟩
def Kf (P:Params):ZN:=
 (nat_lit 2,hD .none [] 0) ::
 (nat_lit 3,hD (.type "dict") [hE P "__name__" 165 (hS "law_hushcards_k73_known_least_ones" 396),hE P "__doc__" 166 .none,hE P "__package__" 167 .none,hE P "__loader__" 168 (.builtin "__main__.__loader__#opaque"),hE P "__spec__" 169 .none,hE P "__annotations__" 170 (.ref 6),hE P "__builtins__" 171 (.ref 4),hE P "__file__" 173 (hS "/claim/cut.py" 172),hE P "__cached__" 174 .none,hE P "greatest_divisor" 197 (.ref 21),hE P "ratio" 206 (.ref 28),hE P "plus" 214 (.ref 35),hE P "total" 223 (.ref 42),hE P "common_bottom" 232 (.ref 49),hE P "cards_at" 240 (.ref 54),hE P "counted" 251 (.ref 61),hE P "spread" 265 (.ref 68),hE P "whole_weights" 273 (.ref 73),hE P "state_of" 279 (.ref 78),hE P "begun" 285 (.ref 83),hE P "deal_numbers" 292 (.ref 90),hE P "mixed_state" 303 (.ref 97),hE P "looked_state" 309 (.ref 102),hE P "sums_of" 315 (.ref 107),hE P "is_quiet_look" 321 (.ref 112),hE P "depth_in" 329 (.ref 117),hE P "cards_told" 342 (.ref 124),hE P "right_end" 348 (.ref 129),hE P "look_within" 364 (.ref 136),hE P "mix_within" 376 (.ref 143),hE P "plan_within" 389 (.ref 150),hE P "fewest" 395 (.ref 155),hE P "_law_cell_at" 405 (.ref 162),hE P "_law_state" 414 (.ref 169),hE P "_law_take" 424 (.ref 176),hE P "_law_order" 430 (.ref 181),hE P "_law_laid" 436 (.ref 186),hE P "_law_rows" 445 (.ref 193),hE P "_law_swapped" 456 (.ref 200),hE P "_law_led" 462 (.ref 205),hE P "_law_deals" 468 (.ref 210),hE P "_law_two_deep" 485 (.ref 217),hE P "_law_no_step" 491 (.ref 222),hE P "law" 500 (.ref 229)] 44) ::
 (nat_lit 20,hC "greatest_divisor" "greatest_divisor" 189 2 2 15 16 (.ref 17) (.ref 18) 19 195 196) ::
 (nat_lit 21,hF "greatest_divisor" "greatest_divisor" (top 1) .none .none (hS "hushcards.fractions" 187) none (.ref 20) .none) ::
 (nat_lit 27,hC "ratio" "ratio" 198 10 2 22 23 (.ref 24) (.ref 25) 26 204 205) ::
 (nat_lit 28,hF "ratio" "ratio" (top 2) .none .none (hS "hushcards.fractions" 187) none (.ref 27) .none) ::
 (nat_lit 34,hC "plus" "plus" 207 15 2 29 30 (.ref 31) (.ref 32) 33 212 213) ::
 (nat_lit 35,hF "plus" "plus" (top 3) .none .none (hS "hushcards.fractions" 187) none (.ref 34) .none) ::
 (nat_lit 41,hC "total" "total" 215 17 1 36 37 (.ref 38) (.ref 39) 40 221 222) ::
 (nat_lit 42,hF "total" "total" (top 4) .none .none (hS "hushcards.fractions" 187) none (.ref 41) .none) ::
 (nat_lit 48,hC "common_bottom" "common_bottom" 224 22 1 43 44 (.ref 45) (.ref 46) 47 230 231) ::
 (nat_lit 49,hF "common_bottom" "common_bottom" (top 5) .none .none (hS "hushcards.fractions" 187) none (.ref 48) .none) ::
 (nat_lit 53,hC "cards_at" "cards_at" 235 28 2 50 51 .none .none 52 238 239) ::
 (nat_lit 54,hF "cards_at" "cards_at" (top 7) .none .none (hS "hushcards.orders" 233) none (.ref 53) .none) ::
 (nat_lit 60,hC "counted" "counted" 243 31 1 55 56 (.ref 57) (.ref 58) 59 249 250) ::
 (nat_lit 61,hF "counted" "counted" (top 9) .none .none (hS "hushcards.shuffles" 241) none (.ref 60) .none) ::
 (nat_lit 67,hC "spread" "spread" 252 36 2 62 63 (.ref 64) (.ref 65) 66 263 264) ::
 (nat_lit 68,hF "spread" "spread" (top 10) .none .none (hS "hushcards.shuffles" 241) none (.ref 67) .none) ::
 (nat_lit 72,hC "whole_weights" "whole_weights" 268 44 2 69 70 .none .none 71 271 272) ::
 (nat_lit 73,hF "whole_weights" "whole_weights" (top 12) .none .none (hS "hushcards.states" 266) none (.ref 72) .none) ::
 (nat_lit 77,hC "state_of" "state_of" 274 51 1 74 75 .none .none 76 277 278) ::
 (nat_lit 78,hF "state_of" "state_of" (top 13) .none .none (hS "hushcards.states" 266) none (.ref 77) .none) ::
 (nat_lit 82,hC "begun" "begun" 280 59 1 79 80 .none .none 81 283 284) ::
 (nat_lit 83,hF "begun" "begun" (top 14) .none .none (hS "hushcards.states" 266) none (.ref 82) .none) ::
 (nat_lit 89,hC "deal_numbers" "deal_numbers" 286 61 1 84 85 (.ref 86) (.ref 87) 88 290 291) ::
 (nat_lit 90,hF "deal_numbers" "deal_numbers" (top 15) .none .none (hS "hushcards.states" 266) none (.ref 89) .none) ::
 (nat_lit 96,hC "mixed_state" "mixed_state" 293 63 2 91 92 (.ref 93) (.ref 94) 95 301 302) ::
 (nat_lit 97,hF "mixed_state" "mixed_state" (top 16) .none .none (hS "hushcards.states" 266) none (.ref 96) .none) ::
 (nat_lit 101,hC "looked_state" "looked_state" 304 69 2 98 99 .none .none 100 307 308) ::
 (nat_lit 102,hF "looked_state" "looked_state" (top 17) .none .none (hS "hushcards.states" 266) none (.ref 101) .none) ::
 (nat_lit 106,hC "sums_of" "sums_of" 310 77 1 103 104 .none .none 105 313 314) ::
 (nat_lit 107,hF "sums_of" "sums_of" (top 18) .none .none (hS "hushcards.states" 266) none (.ref 106) .none) ::
 (nat_lit 111,hC "is_quiet_look" "is_quiet_look" 316 79 2 108 109 .none .none 110 319 320) ::
 (nat_lit 112,hF "is_quiet_look" "is_quiet_look" (top 19) .none .none (hS "hushcards.states" 266) none (.ref 111) .none) ::
 (nat_lit 116,hC "depth_in" "depth_in" 324 82 2 113 114 .none .none 115 327 328) ::
 (nat_lit 117,hF "depth_in" "depth_in" (top 21) .none .none (hS "hushcards.fewest" 322) none (.ref 116) .none) ::
 (nat_lit 123,hC "cards_told" "cards_told" 330 95 2 118 119 (.ref 120) (.ref 121) 122 340 341) ::
 (nat_lit 124,hF "cards_told" "cards_told" (top 22) .none .none (hS "hushcards.fewest" 322) none (.ref 123) .none) ::
 (nat_lit 128,hC "right_end" "right_end" 343 104 2 125 126 .none .none 127 346 347) ::
 (nat_lit 129,hF "right_end" "right_end" (top 23) .none .none (hS "hushcards.fewest" 322) none (.ref 128) .none) ::
 (nat_lit 135,hC "look_within" "look_within" 349 114 5 130 131 (.ref 132) (.ref 133) 134 362 363) ::
 (nat_lit 136,hF "look_within" "look_within" (top 24) .none .none (hS "hushcards.fewest" 322) none (.ref 135) .none) ::
 (nat_lit 142,hC "mix_within" "mix_within" 365 127 5 137 138 (.ref 139) (.ref 140) 141 374 375) ::
 (nat_lit 143,hF "mix_within" "mix_within" (top 25) .none .none (hS "hushcards.fewest" 322) none (.ref 142) .none) ::
 (nat_lit 149,hC "plan_within" "plan_within" 377 130 4 144 145 (.ref 146) (.ref 147) 148 387 388) ::
 (nat_lit 150,hF "plan_within" "plan_within" (top 26) .none .none (hS "hushcards.fewest" 322) none (.ref 149) .none) ::
 (nat_lit 154,hC "fewest" "fewest" 390 145 3 151 152 .none .none 153 393 394) ::
 (nat_lit 155,hF "fewest" "fewest" (top 27) .none .none (hS "hushcards.fewest" 322) none (.ref 154) .none) ::
 (nat_lit 161,hC "_law_cell_at" "_law_cell_at" 398 154 2 156 157 (.ref 158) (.ref 159) 160 403 404) ::
 (nat_lit 162,hF "_law_cell_at" "_law_cell_at" (top 29) .none .none (hS "law_hushcards_k73_known_least_ones" 396) none (.ref 161) .none) ::
 (nat_lit 168,hC "_law_state" "_law_state" 406 158 2 163 164 (.ref 165) (.ref 166) 167 412 413) ::
 (nat_lit 169,hF "_law_state" "_law_state" (top 30) .none .none (hS "law_hushcards_k73_known_least_ones" 396) none (.ref 168) .none) ::
 (nat_lit 175,hC "_law_take" "_law_take" 415 163 2 170 171 (.ref 172) (.ref 173) 174 422 423) ::
 (nat_lit 176,hF "_law_take" "_law_take" (top 31) .none .none (hS "law_hushcards_k73_known_least_ones" 396) none (.ref 175) .none) ::
 (nat_lit 180,hC "_law_order" "_law_order" 425 172 2 177 178 .none .none 179 428 429) ::
 (nat_lit 181,hF "_law_order" "_law_order" (top 32) .none .none (hS "law_hushcards_k73_known_least_ones" 396) none (.ref 180) .none) ::
 (nat_lit 185,hC "_law_laid" "_law_laid" 431 175 2 182 183 .none .none 184 434 435) ::
 (nat_lit 186,hF "_law_laid" "_law_laid" (top 33) .none .none (hS "law_hushcards_k73_known_least_ones" 396) none (.ref 185) .none) ::
 (nat_lit 192,hC "_law_rows" "_law_rows" 437 177 1 187 188 (.ref 189) (.ref 190) 191 443 444) ::
 (nat_lit 193,hF "_law_rows" "_law_rows" (top 34) .none .none (hS "law_hushcards_k73_known_least_ones" 396) none (.ref 192) .none) ::
 (nat_lit 199,hC "_law_swapped" "_law_swapped" 446 182 2 194 195 (.ref 196) (.ref 197) 198 454 455) ::
 (nat_lit 200,hF "_law_swapped" "_law_swapped" (top 35) .none .none (hS "law_hushcards_k73_known_least_ones" 396) none (.ref 199) .none) ::
 (nat_lit 204,hC "_law_led" "_law_led" 457 187 2 201 202 .none .none 203 460 461) ::
 (nat_lit 205,hF "_law_led" "_law_led" (top 36) .none .none (hS "law_hushcards_k73_known_least_ones" 396) none (.ref 204) .none) ::
 (nat_lit 209,hC "_law_deals" "_law_deals" 463 189 3 206 207 .none .none 208 466 467) ::
 (nat_lit 210,hF "_law_deals" "_law_deals" (top 37) .none .none (hS "law_hushcards_k73_known_least_ones" 396) none (.ref 209) .none) ::
 (nat_lit 216,hC "_law_two_deep" "_law_two_deep" 469 191 5 211 212 (.ref 213) (.ref 214) 215 483 484) ::
 (nat_lit 217,hF "_law_two_deep" "_law_two_deep" (top 38) .none .none (hS "law_hushcards_k73_known_least_ones" 396) none (.ref 216) .none) ::
 (nat_lit 221,hC "_law_no_step" "_law_no_step" 486 201 2 218 219 .none .none 220 489 490) ::
 (nat_lit 222,hF "_law_no_step" "_law_no_step" (top 39) .none .none (hS "law_hushcards_k73_known_least_ones" 396) none (.ref 221) .none) ::
 (nat_lit 228,hC "law" "law" 492 209 1 223 224 (.ref 225) (.ref 226) 227 498 499) ::
 (nat_lit 229,hF "law" "law" (top 40) .none .none (hS "law_hushcards_k73_known_least_ones" 396) none (.ref 228) .none)::[]
def vw:acC:={PySem.Challenge.pw_hushcards_k73_known_least_ones with main:={PySem.Challenge.pw_hushcards_k73_known_least_ones.main with body:=([1,2,3,4,5,7,9,10,12,13,14,15,16,17,18,19,21,22,23,24,25,26,27,29,30,31,32,33,34,35,36,37,38,39,40]:List Nat).map top}}
def hk:PySem.W.Hook:=PySem.W.kHook Kf [2,3,20,21,27,28,34,35,41,42,48,49,53,54,60,61,67,68,72,73,77,78,82,83,89,90,96,97,101,102,106,107,111,112,116,117,123,124,128,129,135,136,142,143,149,150,154,155,161,162,168,169,175,176,180,181,185,186,192,193,199,200,204,205,209,210,216,217,221,222,228,229] (λ_=>by kernel_rfl)
abbrev WW:=PySem.Challenge.rw_hushcards_k73_known_least_ones.row
theorem left:PySem.W.LeftO WW.prog vw [] (λs=>PySem.W.xlAt vw [] s&&PySem.W.recOk (PySem.W.RowW.records WW.toRowW) s) hk.obs hk.val 2318:=λw=>by kernel_rfl
end Hc
namespace L2
abbrev Key:=Sum Int Str
def vV:Key->ZR->Bool
 | .inl k,v=>Value.isInt k v
 | .inr x,v=>Value.isStrOf x v
def UR (w:acs):Key->Int
 | .inl k=>hashInt k
 | .inr x=>hashStr w x
theorem c8:∀{k:Key} {v:ZR},vV k v=true->(∃i t,k=Sum.inl i/\v=Value.int i t)\/(∃x t,k=Sum.inr x/\v=Value.str x t)
 | .inl i,v,h=>by
  obtain⟨t,e⟩:=Value.isInt_shape (k:=i) (v:=v) h;exact .inl ⟨i,t,rfl,e⟩
 | .inr x,v,h=>by
  obtain⟨t,e⟩:=Value.isStrOf_shape (x:=x) (v:=v) h;exact .inr ⟨x,t,rfl,e⟩
theorem EB (i:Int)(t:Tok):vV (.inl i) (.int i t)=true:=by simp[vV,Value.isInt]
theorem EC (x:Str)(t:Tok):vV (.inr x) (.str x t)=true:=by simp[vV,Value.isStrOf]
theorem Oh (a b:Int):decide ((Sum.inl a:Key)=Sum.inl b)=(a==b):=by
 by_cases e:a=b
 ·subst e;simp
 ·have h:¬(Sum.inl a:Key)=Sum.inl b:=λq=>e (Sum.inl.inj q);rw[hJ h];exact (beq_eq_false_iff_ne.mpr e).symm
theorem Oi (a b:Str):decide ((Sum.inr a:Key)=Sum.inr b)=decide (a=b):=by
 by_cases e:a=b
 ·subst e;simp
 ·have h:¬(Sum.inr a:Key)=Sum.inr b:=λq=>e (Sum.inr.inj q);rw[hJ h,hJ e]
theorem Oj (a:Int)(b:Str):decide ((Sum.inl a:Key)=Sum.inr b)=false:=hJ (λq=>nomatch q)
theorem Ol (a:Str)(b:Int):decide ((Sum.inr a:Key)=Sum.inl b)=false:=hJ (λq=>nomatch q)
def dJ (prog:acC)(w:acs):PySem.KeyKind prog w Key where
 is:=vV
 hash:=UR w
 inj:=λv a b ha hb=>by
  rcases c8 ha with⟨i,t,rfl,rfl⟩|⟨x,t,rfl,rfl⟩
  ·rcases c8 hb with⟨j,u,rfl,e⟩|⟨y,u,rfl,e⟩
   ·injection e with e1 _;rw[e1]
   ·exact nomatch e
  ·rcases c8 hb with⟨j,u,rfl,e⟩|⟨y,u,rfl,e⟩
   ·exact nomatch e
   ·injection e with e1 _;rw[e1]
 byValue:=λk v h=>by
  rcases c8 h with⟨i,t,rfl,rfl⟩|⟨x,t,rfl,rfl⟩<;>rfl
 pyHash:=λhv h=>by
  rcases c8 hv with⟨i,t,rfl,rfl⟩|⟨x,t,rfl,rfl⟩
  ·exact wpAny_pyHash_int h
  ·exact wpAny_pyHash_str h
 eqBool:=λhu hv h=>by
  rcases c8 hu with⟨i,t,rfl,rfl⟩|⟨x,t,rfl,rfl⟩
  ·rcases c8 hv with⟨j,u,rfl,rfl⟩|⟨y,u,rfl,rfl⟩
   ·rw[Oh] at h;exact aeb h
   ·rw[Oj] at h;exact SeqAt.EqAt.int_str i t y u _ _ _ _ h
  ·rcases c8 hv with⟨j,u,rfl,rfl⟩|⟨y,u,rfl,rfl⟩
   ·rw[Ol] at h;exact SeqAt.EqAt.str_int x t j u _ _ _ _ h
   ·rw[Oi] at h;exact wpAny_eqBool_str h
 «strs»:=λk x t v h=>by
  rcases c8 h with⟨i,u,rfl,e⟩|⟨y,u,rfl,e⟩
  ·exact nomatch e
  ·injection e with e1 _
   subst e1;cases v<;>rfl
theorem yP (prog:acC)(w:acs)(i:Int)(t:Tok):(dJ prog w).is (.inl i) (.int i t)=true:=EB i t
theorem yQ (prog:acC)(w:acs)(x:Str)(t:Tok):(dJ prog w).is (.inr x) (.str x t)=true:=EC x t
end L2
namespace L2
inductive V where
 |non|bl (b:Bool)|int (i:Int)|str (x:Str)|byt (b:Array UInt8)|flt (b:UInt64)|ref (a:Z_)|ty (n:String)
 deriving DecidableEq
def aZ:V->ZR->Prop
 | .non,u=>u=Value.none
 | .bl b,u=>u=Value.bool b
 | .int i,u=>∃t,u=Value.int i t
 | .str x,u=>∃t,u=Value.str x t
 | .byt b,u=>∃t,u=Value.bytes b t
 | .flt b,u=>∃t,u=Value.float b t
 | .ref a,u=>u=Value.ref a
 | .ty n,u=>u=Value.type n
abbrev bg:List V->List ZR->Prop:=aeT aZ
theorem bg.length {xs:List V}{us:List ZR}(r:bg xs us):xs.length=us.length:=adq r
theorem bg.get:∀{xs:List V} {us:List ZR} {i:Nat} {x:V},bg xs us->xs[i]? = some x->∃u,us[i]? = some u/\aZ x u
 |_,_,_,_,.nil,e=>by simp at e
 |_,_,0,_,.cons r _,e=>by simp at e;subst e;exact⟨_,rfl,r⟩
 |_,_,i+1,x,.cons _ t,e=>by
  obtain⟨u,h1,h2⟩:=bg.get (i:=i) (x:=x) t (by simpa using e);exact⟨u,by simpa using h1,h2⟩
theorem bg.set {x:V}{u:ZR}(r:aZ x u):∀{xs:List V} {us:List ZR} (i:Nat),bg xs us->bg (xs.set i x) (us.set i u)
 |_,_,_,.nil=>.nil
 |_,_,0,.cons _ t=>.cons r t
 |_,_,i+1,.cons q t=>.cons q (bg.set r i t)
theorem bg.append:∀{xs ys:List V} {us ws:List ZR},bg xs us->bg ys ws->bg (xs++ys) (us++ws)
 |_,_,_,_,.nil,s=>s
 |_,_,_,_,.cons r t,s=>.cons r (bg.append t s)
def n9:Option V->Option ZR->Prop
 |some v,some u=>aZ v u
 |none,none=>True
 |_,_=>False
def KV {κ:Type}:List (κ×V)->List (κ×ZR)->Prop:=aeT λ(p:κ×V) (q:κ×ZR)=>p.1=q.1/\aZ p.2 q.2
def kV:Key->V
 | .inl i=>.int i
 | .inr x=>.str x
inductive HO where
 |lst (xs:List V)
 |tup (xs:List V)
 |dK (bb:List (Key×V))|dT (bb:List (List Key×V))
 |set (S:Int->Bool) (n:Nat)
 |ins (C dx:Z_) (fs:List (Str×V))
 |own (x:Z_)
 |xd (fs:List (Str×V))
 |met (f x:Z_)
 |rng (lo hi:Int)
 |frz (o:Obj) (u:HO)
 |tbl (ps:Array ZR)
 |ext (φ:acz->Prop)
abbrev Hp:=Z_->Option HO
def cH (H:Hp)(a:Z_)(o:HO):Hp:=λb=>if b=a then some o else H b
theorem bj {H:Hp}{o:HO}:cH H a o a=some o:=by unfold cH;rw[hZ rfl]
theorem a_ {H:Hp}{o:HO}(h:b≠a):cH H a o b=H b:=by unfold cH;rw[hV h]
theorem Q7 {H:Hp}{o u:HO}(h:H a=some o)(h':H b=some u)(d:o≠u):a≠b:=by
 intro e;subst e;rw[h] at h';exact d (aab h')
theorem b8 {H:Hp}{o:HO}(h:H a=some o)(h':H b=none):a≠b:=by
 intro e;subst e;rw[h] at h';cases h'
section
variable (P:acC)(w:acs)
def dH (H:Hp)(h:acz)(a:Z_):HO->Prop
 | .lst xs=>xs.length<=ZL/\∃(aD:List ZR) (n:Nat),bg xs aD/\h.get? a=some {cls:=.type "list",data:=.seq aD.toArray n}
 | .tup xs=>xs.length<=ZL/\∃aD:List ZR,bg xs aD/\IsTup h a aD.toArray/\∃n,h.get? a=some {cls:=.type "tuple",data:=.seq aD.toArray n}
 | .dK bb=>bb.length<=ZL/\(a==abC)=false/\∃vs,KV bb vs/\h.DictOf (dJ P w) a vs
 | .dT bb=>bb.length<=ZL/\(a==abC)=false/\∃xs:List (List Key×Z_×ZR),
   aeT (λ(p:List Key×V) (q:List Key×Z_×ZR)=>p.1=q.1/\H q.2.1=some (.tup (p.1.map kV))/\aZ p.2 q.2.2) bb xs/\
   ∃o es ep,h.get? a=some o/\o.ExactDict/\o.data=.dict es ep/\es.toList=xs.map (entryOfKey (aeU (dJ P w)))/\(xs.map (·.1)).Nodup
 | .set S n=>h.SetOf (intKind P w) a S n
 | .ins C dx fs=>H dx=some (.own a)/\fs.length<=1000/\dx≠a/\h.get? a=some (PySem.W.instObj C dx)/\
   ∃mA,h.Ns1 dx mA/\(∀f,n9 (fs.lookup f) (mA f))/\PySem.Within mA (fs.map (·.1))
 | .own _=>∃o,h.get? a=some o
 | .xd fs=>∃mA,h.Ns1 a mA/\∀f,n9 (fs.lookup f) (mA f)
 | .rng lo hi=>∃t u v,h.get? a=some {cls:=.type "range",data:=.fields #[.int lo t,.int hi u,.int 1 v]}
 | .frz o u=>h.get? a=some o/\dH H h a u
 | .tbl ps=>h.get? a=some {cls:=.none,data:=.fields ps}
 | .met f x=>h.get? a=some (aeV (.ref f) (.ref x))
 | .ext φ=>φ h/\(∃o,h.get? a=some o)/\∀h1 h2:acz,φ h1->(∀o,h1.get? a=some o->h2.get? a=some o)->φ h2
def lB (H:Hp)(h:acz):Prop:=∀a o,H a=some o->dH P w H h a o
end
section
variable {H H':Hp}{o:HO}
theorem dH.lt (x:dH P w H h a o):a<h.objs.size:=by
 cases o with
 |lst xs=>obtain⟨_,_,_,_,e⟩:=x;exact Z4 e
 |tup xs=>obtain⟨_,_,_,p,_⟩:=x;exact p.lt
 |dK bb=>obtain⟨_,_,_,_,o,_,_,e,_⟩:=x;exact Z4 e
 |dT bb=>obtain⟨_,_,_,_,o,_,_,e,_⟩:=x;exact Z4 e
 |set S n=>obtain⟨o,_,_,_,e,_⟩:=x;exact Z4 e
 |ins C dx fs=>obtain⟨_,_,_,e,_⟩:=x;exact Z4 e
 |own y=>obtain⟨_,e⟩:=x;exact Z4 e
 |xd fs=>obtain⟨_,⟨_,_,_,e,_⟩,_⟩:=x;exact Z4 e
 |rng lo hi=>obtain⟨_,_,_,e⟩:=x;exact Z4 e
 |frz ob u=>obtain⟨e,_⟩:=x;exact Z4 e
 |tbl ps=>exact Z4 (show h.get? a=some _ from x)
 |met f y=>exact Z4 (show h.get? a=some _ from x)
 |ext φ=>obtain⟨_,⟨_,e⟩,_⟩:=x;exact Z4 e
theorem Paired.mapP {α β:Type}{F G:α->β->Prop}:∀{l₁:List α} {l₂:List β},aeT F l₁ l₂->(∀a b,F a b->G a b)->aeT G l₁ l₂
 |_,_,.nil,_=>.nil
 |_,_,.cons r t,f=>.cons (f _ _ r) (Paired.mapP t f)
theorem dH.stay (x:dH P w H h a o)(k:∀b u,(b=a\/H b=some (.own a))->h.get? b=some u->h'.get? b=some u)
  (ho:∀b,H b=some (.own a)->H' b=some (.own a)) (ht:∀b xs,H b=some (.tup xs)->H' b=some (.tup xs)):dH P w H' h' a o:=by
 induction o with
 |lst xs=>obtain⟨z,aD,n,r,e⟩:=x;exact⟨z,aD,n,r,k _ _ (.inl rfl) e⟩
 |tup xs=>obtain⟨z,aD,r,⟨ob,e,c⟩,n2,e2⟩:=x;exact⟨z,aD,r,⟨ob,k _ _ (.inl rfl) e,c⟩,n2,k _ _ (.inl rfl) e2⟩
 |dK bb=>obtain⟨z,y,vs,r,ob,es,ep,e,c⟩:=x;exact⟨z,y,vs,r,ob,es,ep,k _ _ (.inl rfl) e,c⟩
 |dT bb=>
  obtain⟨z,y,xs,r,ob,es,ep,e,c⟩:=x;exact⟨z,y,xs,Paired.mapP r λp q z=>⟨z.1,ht _ _ z.2.1,z.2.2⟩,ob,es,ep,k _ _ (.inl rfl) e,c⟩
 |set S n=>obtain⟨ob,es,ep,t,e,c⟩:=x;exact⟨ob,es,ep,t,k _ _ (.inl rfl) e,c⟩
 |ins C dx fs=>
  obtain⟨d,z,ne,e,mA,⟨od,es,ep,e2,c⟩,r⟩:=x;exact⟨ho _ d,z,ne,k _ _ (.inl rfl) e,mA,⟨od,es,ep,k _ _ (.inr d) e2,c⟩,r⟩
 |own y=>obtain⟨ob,e⟩:=x;exact⟨ob,k _ _ (.inl rfl) e⟩
 |xd fs=>obtain⟨mA,⟨od,es,ep,e,c⟩,r⟩:=x;exact⟨mA,⟨od,es,ep,k _ _ (.inl rfl) e,c⟩,r⟩
 |rng lo hi=>obtain⟨t,u,v,e⟩:=x;exact⟨t,u,v,k _ _ (.inl rfl) e⟩
 |frz ob u ih=>obtain⟨e,q⟩:=x;exact⟨k _ _ (.inl rfl) e,ih q⟩
 |tbl ps=>
  have e:h.get? a=some {cls:=.none,data:=.fields ps}:=x;show h'.get? a=some {cls:=.none,data:=.fields ps};exact k a _ (.inl rfl) e
 |met f y=>
  have e:h.get? a=some (aeV (.ref f) (.ref y)):=x;show h'.get? a=some (aeV (.ref f) (.ref y));exact k a _ (.inl rfl) e
 |ext φ=>obtain⟨p,⟨o,e⟩,st⟩:=x;exact⟨st _ _ p λo q=>k _ _ (.inl rfl) q,⟨o,k _ _ (.inl rfl) e⟩,st⟩
theorem lB.lt (x:lB P w H h)(e:H a=some o):a<h.objs.size:=(x a o e).lt
theorem lB.fresh (x:lB P w H h)(e:h.objs.size<=a):H a=none:=by
 cases q:H a with
 |none=>rfl
 |some u=>exact absurd (aak (x.lt q) e) (aaQ _)
theorem lB.kept (x:lB P w H h)(k:∀b u,h.get? b=some u->h'.get? b=some u):lB P w H h':=λa o e=>
 (x a o e).stay (λb u _ q=>k b u q) (λ_ q=>q) λ_ _ q=>q
theorem lB.laid (x:lB P w H h)(k:∀b u,h.get? b=some u->h'.get? b=some u)(hp:h.objs.size<=a)(new:dH P w (cH H a o) h' a o):lB P w (cH H a o) h':=λb u e=>by
 have hn:=x.fresh hp;by_cases hb:b=a
 ·subst hb;rw[bj] at e;cases e;exact new
 ·rw[a_ hb] at e;exact (x b u e).stay (λc v _ q=>k c v q) (λc q=>by rw[a_ (b8 q hn)];exact q) λc xs q=>by rw[a_ (b8 q hn)];exact q
end
def Rd (H:Hp)(a:Z_)(u:HO):Prop:=H a=some u\/∃o,H a=some (.frz o u)
theorem Rd.ok {H:Hp}{u:HO}(r:Rd H a u)(x:lB P w H h):dH P w H h a u:=by
 rcases r with r|⟨o,r⟩
 ·exact x a u r
 ·obtain⟨_,q⟩:=x a _ r;exact q
def QU:Option HO->Prop
 |some (.lst _)=>True
 |some (.dK _)=>True
 |some (.dT _)=>True
 |some (.set _ _)=>True
 |some (.ins _ _ _)=>True
 |some (.ext _)=>True
 |_=>False
section
variable {H:Hp}{x e:Z_}{o':HO}
theorem lB.write (ok:lB P w H h)(mu:QU (H x))(he:e=x\/H e=some (.own x))(k:∀b u,b≠e->h.get? b=some u->h'.get? b=some u)(Q3:∃u,h'.get? e=some u)
  (new:dH P w (cH H x o') h' x o'):lB P w (cH H x o') h':=λb u q=>by
 have TC:∀c y,H c=some (.own y)->c≠x:=λc y r z=>by subst z;rw[r] at mu;exact mu
 have VJ:∀c xs,H c=some (.tup xs)->c≠x:=λc xs r z=>by subst z;rw[r] at mu;exact mu
 by_cases hb:b=x
 ·subst hb;rw[bj] at q;cases q;exact new
 ·rw[a_ hb] at q;by_cases hbe:b=e
  ·have q':H b=some (.own x):=by
    rcases he with z|z
    ·exact absurd (hbe.trans z) hb
    ·rw[hbe];exact z
   rw[q] at q';cases q';obtain⟨v,hv⟩:=Q3;exact⟨v,by rw[hbe];exact hv⟩
  ·refine (ok b u q).stay (λc v hc r=>k c v ?_ r) (λc r=>by rw[a_ (TC c b r)];exact r) λc xs r=>by rw[a_ (VJ c xs r)];exact r
   rcases hc with rfl|hc
   ·exact hbe
   ·rintro rfl;rcases he with z|z
    ·exact TC c b hc z
    ·rw[hc] at z;cases z;exact hb rfl
end
structure Un (fs ex:List Z_)(H H':Hp)(h h':acz):Prop where
 keep:∀b o,h.get? b=some o->H b=none->b∉fs->b∉ex->h'.get? b=some o
 slot:∀b o,h.get? b=some o->H b=none->b∈fs->b∉ex->∃sl,h'.get? b=some {o with slots:=sl}
 free:∀b o,h.get? b=some o->H b=none->b∉ex->H' b=none
 there:∀b o,h.get? b=some o->b∉ex->∃o',h'.get? b=some o'
 tups:∀b xs,H b=some (.tup xs)->H' b=some (.tup xs)
 frzs:∀b o u,H b=some (.frz o u)->H' b=some (.frz o u)
 tbls:∀b ps,H b=some (.tbl ps)->∃more,H' b=some (.tbl (ps++more))
section
variable {fs fs' ex ex':List Z_}{H H1 H2:Hp}{h1 h2:acz}{x e:Z_}{o:HO}
theorem Un.any (u:Un fs ex H H1 h h1){ob:Obj}(q:h.get? b=some ob)(n:H b=none)(hx:b∉ex):∃sl,h1.get? b=some {ob with slots:=sl}:=by
 by_cases hb:b∈fs
 ·exact u.slot b ob q n hb hx
 ·exact⟨ob.slots,u.keep b ob q n hb hx⟩
theorem Un.kept (k:∀b u,h.get? b=some u->h'.get? b=some u):Un fs ex H H h h' :=
 ⟨λb ob q _ _ _=>k b ob q,λb ob q _ _ _=>⟨ob.slots,k b ob q⟩,λ_ _ _ n _=>n,λb ob q _=>⟨ob,k b ob q⟩,λ_ _ q=>q,λ_ _ _ q=>q,λ_ ps q=>⟨#[],by rw[q];simp⟩⟩
theorem Un.refl:Un fs ex H H h h:=Un.kept λ_ _ q=>q
theorem Un.laid (k:∀b u,h.get? b=some u->h'.get? b=some u)(hp:h.objs.size<=a)(hn:H a=none):Un fs ex H (cH H a o) h h' where
 keep:=λb u q _ _ _=>k b u q
 slot:=λb u q _ _ _=>⟨u.slots,k b u q⟩
 free:=λb u q n _=>by rw[a_ (aah (aak (Z4 q) hp))];exact n
 there:=λb u q _=>⟨u,k b u q⟩
 tups:=λb xs q=>by rw[a_ (b8 q hn)];exact q
 frzs:=λb u xs q=>by rw[a_ (b8 q hn)];exact q
 tbls:=λb ps q=>⟨#[],by rw[a_ (b8 q hn),q];simp⟩
theorem Un.write (mu:QU (H x))(he:e=x\/H e=some (.own x))(k:∀b u,b≠e->h.get? b=some u->h'.get? b=some u)(Q3:∃u,h'.get? e=some u):Un fs ex H (cH H x o) h h':=by
 have hx:∀b,H b=none->b≠x:=λb n z=>by subst z;rw[n] at mu;exact mu
 have hb:∀b,H b=none->b≠e:=λb n z=>by
  subst z;rcases he with r|r
  ·exact hx b n r
  ·rw[n] at r;cases r
 have hm:∀b u,H b=some u->¬QU (some u)->b≠x:=λb u q nm z=>by subst z;rw[q] at mu;exact nm mu
 refine⟨λb u q n _ _=>k b u (hb b n) q,λb u q n _ _=>⟨u.slots,k b u (hb b n) q⟩,λb u q n _=>by rw[a_ (hx b n)];exact n,λb u q _=>?_,
  λb xs q=>by rw[a_ (hm b _ q λz=>z)];exact q,λb u xs q=>by rw[a_ (hm b _ q λz=>z)];exact q,λb ps q=>⟨#[],by rw[a_ (hm b _ q λz=>z),q];simp⟩⟩
 by_cases hbe:b=e
 ·subst hbe;exact Q3
 ·exact⟨u,k b u hbe q⟩
end
def Uj (h:acz)(H:Hp):List Z_:=(ZU h.objs.size).filter λa=>(H a).isSome
def xj (h:acz)(H:Hp):acz:=PySem.W.hideAll h (Uj h H)
theorem ED (h:acz)(H:Hp):(xj h H).objs.size=h.objs.size:=PySem.W.hideAll_size _ _
theorem F3 {H:Hp}{o:Obj}(e:h.get? b=some o)(n:H b=none):(xj h H).get? b=some o:=
 PySem.W.hideAll_get _ e λhm=>by
  have q:(H b).isSome=true:=(aa5.mp hm).2;rw[n] at q;simp at q
theorem J_ {H:Hp}{o:Obj}(e:(xj h H).get? b=some o):h.get? b=some o/\H b=none:=by
 have e':h.get? b=some o:=PySem.W.of_hideAll (Uj h H) e;refine⟨e',?_⟩;cases q:H b with
 |none=>rfl
 |some x=>
  have hm:b∈Uj h H:=aa5.mpr ⟨Z6.mpr (Z4 e'),by simp[q]⟩;have z:(xj h H).get? b=none:=PySem.W.hideAll_none (Uj h H) hm;rw[z] at e;cases e
end L2
variable {xs vs:List L2.V}{H H' H1 H2:L2.Hp}{v y v':L2.V}{bb:List (List L2.Key×L2.V)}
namespace L2
structure Mod (K:ZN)(mg:Str->Option ZR)(base:acz):Prop where
 kin:K.In base
 glob:base.Ns aaF mg
 blt:∃mb,base.Ns builtinsNs mb/\∀x:Str,x≠"__name__"->mb x=aaO x
 nolimit:base.NoLimit
structure Cx where
 prog:acC
 w:acs
 K:ZN
 mg:Str->Option ZR
 base:acz
 A:aaC
 N:List Str
 s₀:Z5
 H₀:Hp
 env:Env
 outer:List Env
 stack:List Env
 ex:List Z_
 fn:Str->Bool
 calm:Bool
 pn:List (Z_×Obj)
 xe:ZR->Z5->Prop
def CF (l:List Env):List Z_:=l.filterMap (·.frame)
abbrev Cx.fs (X:Cx):List Z_:=CF X.outer
def A8 (sc:aei)(x:Str):Prop:=sc.names.lookup x=some .local\/sc.names.lookup x=some .cell\/sc.names.lookup x=some .free
def Ka (sc:aei)(x:Str):Prop:=sc.names.lookup x=some .local\/sc.names.lookup x=some .cell
def US (env:Env)(h:acz)(m:Str->Option ZR)(x:Str)(u:ZR):Prop:=
 (env.kindOf x=some .local/\m x=some u)\/((env.kindOf x=some .cell\/env.kindOf x=some .free)/\∃c,env.cells.lookup x=some c/\h.IsCell c (some u))
structure Cx.Ok (X:Cx):Prop where
 mod:Mod X.K X.mg X.base
 kind:X.env.scope.kind=.function
 glob:X.env.globals=aaF
 blt:X.env.builtins=builtinsNs
 above:X.s₀.heap.objs.size<=X.env.locals
 inj:∀x y c,X.env.cells.lookup x=some c->X.env.cells.lookup y=some c->x=y
 has:∀x,(X.env.kindOf x=some .cell\/X.env.kindOf x=some .free)->∃c,X.env.cells.lookup x=some c
 cab:∀x c,X.fn x=true->X.env.cells.lookup x=some c->X.s₀.heap.objs.size<=c
 hd:X.calm=true->X.A.handled=none
 frames:X.A.frames=some X.stack
 stk:X.stack=X.outer\/(X.stack=X.env::X.outer/\X.env.frame=some X.env.locals)
 exf:∀b∈X.ex,b≠X.env.locals/\∀x c,X.env.cells.lookup x=some c->c≠b
 bs:∀b o,X.base.get? b=some o->X.s₀.heap.get? b=some o/\X.H₀ b=none
 bsz:X.base.objs.size<=X.s₀.heap.objs.size
 noex:∀b o,X.base.get? b=some o->b∉X.ex
 exfs:∀b∈X.ex,b∉X.fs
 funs:X.s₀.heap.FunFrames X.base X.outer
 frf:∀b∈X.fs,X.H₀ b=none
structure aL (X:Cx)(pins:List (Z_×Obj))(σ:List (Option V))(H:Hp)(s:Z5):Prop where
 ok:X.Ok
 os:s.os=X.s₀.os
 bare:AllBare s.gens
 base:Un X.fs X.ex X.H₀ H X.s₀.heap s.heap
 loc:∃m,s.heap.Ns X.env.locals m/\∀(i:Nat) (x:Str) (v:V),X.N[i]? = some x->σ[i]? = some (some v)->A8 X.env.scope x->∃u,aZ v u/\US X.env s.heap m x u
 cell:∀x c,X.env.cells.lookup x=some c->∃v,s.heap.IsCell c v
 free:H X.env.locals=none
 freeC:∀x c,X.env.cells.lookup x=some c->H c=none
 pin:∀p∈X.pn++pins,s.heap.get? p.1=some p.2/\H p.1=none/\p.1≠X.env.locals/\p.1∉X.fs/\∀v,p.2.data≠.cell v
 hok:lB X.prog X.w H s.heap
 len:σ.length=X.N.length
section
variable {X:Cx}{σ:List (Option V)}
theorem Cx.Ok.nofr (ok:X.Ok){o:Obj}(e:X.base.get? b=some o):b∉X.fs:=λhb=>by
 have:=(ok.funs.mem hb).1;rw[e] at this;cases this
theorem aL.bs (I:aL X pins σ H s):∀b o,X.base.get? b=some o->s.heap.get? b=some o/\H b=none:=λb o e=>
 ⟨I.base.keep b o (I.ok.bs b o e).1 (I.ok.bs b o e).2 (I.ok.nofr e) (I.ok.noex b o e),I.base.free b o (I.ok.bs b o e).1 (I.ok.bs b o e).2 (I.ok.noex b o e)⟩
theorem aL.bk (I:aL X pins σ H s):∀b o,X.base.get? b=some o->s.heap.get? b=some o:=λb o e=>(I.bs b o e).1
theorem aL.mod (I:aL X pins σ H s):Mod X.K X.mg X.base:=I.ok.mod
theorem aL.kIn (I:aL X pins σ H s):X.K.In s.heap:=I.ok.mod.kin.keeps I.bk
theorem aL.lt (I:aL X pins σ H s):X.env.locals<s.heap.objs.size:=let ⟨_,hn,_⟩:=I.loc;hn.lt
theorem aL.sz (I:aL X pins σ H s):X.s₀.heap.objs.size<=s.heap.objs.size:=aaP I.ok.above (ad2 I.lt)
theorem aL.nofs (I:aL X pins σ H s)(h:s.heap.objs.size<=a):a∉X.fs:=λhb=>by
 obtain⟨_,o,ho,_⟩:=I.ok.funs.mem hb;exact absurd (aak (Z4 ho) (aaP I.sz h)) (aaQ _)
theorem aL.cne (I:aL X pins σ H s):∀x c,X.env.cells.lookup x=some c->c≠X.env.locals:=λx c e z=>by
 obtain⟨v,o,ho,hd⟩:=I.cell x c e;obtain⟨m,⟨o',es,ep,Mx,hd',_⟩,_⟩:=I.loc;rw[z,Mx] at ho;cases ho;rw[hd'] at hd;cases hd
theorem aL.funs (I:aL X pins σ H s):s.heap.FunFrames X.base X.outer:=by
 have all:∀(l:List Env),(∀b∈CF l,b∈X.fs)->X.s₀.heap.FunFrames X.base l->s.heap.FunFrames X.base l:=by
  intro l
  induction l with
  |nil=>intro _ _;trivial
  |cons env r ih=>
   intro hs hl;obtain⟨hk,⟨L,o,hf,hn,ho,hd⟩,hr⟩:=hl;have hL:L∈X.fs:=hs L (by unfold CF;rw[aen,hf];exact ZG);obtain⟨sl,e⟩:=I.base.slot L o ho (I.ok.frf L hL) hL λz=>I.ok.exfs L z hL;exact⟨hk,⟨L,_,hf,hn,e,hd⟩,ih (λb hb=>hs b (by unfold CF;rw[aen,hf];exact ZK _ hb)) hr⟩
 exact all X.outer (λ_ hb=>hb) I.ok.funs
theorem aL.stack (I:aL X pins σ H s):s.heap.FunFrames X.base X.stack:=by
 rcases I.ok.stk with e|⟨e,hf⟩
 ·rw[e];exact I.funs
 ·rw[e];obtain⟨m,hn,_⟩:=I.loc;refine .cons (by rw[I.ok.kind];decide) hf hn ?_ I.funs;exact Heap.get?_none_of_le (aaP I.ok.bsz I.ok.above)
theorem aL.stkSub (I:aL X pins σ H s):∀b∈CF X.stack,b∈X.env.locals::X.fs:=λb hb=>by
 rcases I.ok.stk with e|⟨e,hf⟩
 ·rw[e] at hb;exact ZK _ hb
 ·rw[e] at hb;unfold CF at hb;rw[aen,hf] at hb;exact hb
theorem aL.stkFree (I:aL X pins σ H s):∀b∈CF X.stack,H b=none:=λb hb=>by
 rcases ZX.mp (I.stkSub b hb) with e|hb
 ·rw[e];exact I.free
 ·obtain⟨_,o,ho,_⟩:=I.ok.funs.mem hb;exact I.base.free b o ho (I.ok.frf b hb) λz=>I.ok.exfs b z hb
theorem aL.step {t':Nat}{g':Array GenState}{d':Drawn}(I:aL X pins σ H s)(J0:∀b∈ch,(b∈X.ex\/X.s₀.heap.objs.size<=b)/\b≠X.env.locals/\(∀x c,X.env.cells.lookup x=some c->c≠b)/\∀p∈X.pn++pins,p.1≠b)(keep:∀b o,b≠X.env.locals->b∉X.fs->b∉ch->s.heap.get? b=some o->H b=none->h'.get? b=some o)(slot:∀b o,b≠X.env.locals->b∈X.fs->b∉ch->s.heap.get? b=some o->H b=none->∃sl,h'.get? b=some {o with slots:=sl})(free:∀b o,b∉ch->s.heap.get? b=some o->H b=none->H' b=none)(there:∀b o,b∉ch->s.heap.get? b=some o->∃o',h'.get? b=some o')(tups:∀b xs,H b=some (.tup xs)->H' b=some (.tup xs))(frzs:∀b o u,H b=some (.frz o u)->H' b=some (.frz o u))(tbls:∀b ps,H b=some (.tbl ps)->∃more,H' b=some (.tbl (ps++more)))(ns:∀m,s.heap.Ns X.env.locals m->h'.Ns X.env.locals m)(hok:lB X.prog X.w H' h')(hg:AllBare g') :
  aL X pins σ H' {s with heap:=h',gens:=g',drawn:=d',toks:=t'}:=by
 have W5:∀b o,X.s₀.heap.get? b=some o->b≠X.env.locals:=λb o e=>aah (aak (Z4 e) I.ok.above);have UL:∀b o,X.s₀.heap.get? b=some o->b∉X.ex->b∉ch:=λb o e hx hb=>by
  rcases (J0 b hb).1 with z|z
  ·exact hx z
  ·exact absurd (aak (Z4 e) z) (aaQ _)
 have N4:∀x c,X.env.cells.lookup x=some c->∀v,s.heap.IsCell c v->h'.IsCell c v:=λx c e v h00=>by
  obtain⟨o,ho,hd⟩:=h00;have TF:c∉ch:=λz=>(J0 c z).2.2.1 x c e rfl;by_cases hc:c∈X.fs
  ·obtain⟨sl,q⟩:=slot c o (I.cne x c e) hc TF ho (I.freeC x c e);exact⟨_,q,hd⟩
  ·exact⟨o,keep c o (I.cne x c e) hc TF ho (I.freeC x c e),hd⟩
 refine⟨I.ok,I.os,hg,⟨λb o e n hb hx=>?_,λb o e n hb hx=>?_,λb o e n hx=>?_,λb o e hx=>?_,λb xs e=>tups b xs (I.base.tups b xs e),λb o xs e=>frzs b o xs (I.base.frzs b o xs e),λb ps e=>?_⟩,?_,λx c e=>?_,?_,λx c e=>?_,λp hp=>?_,hok,I.len⟩
 ·exact keep b o (W5 b o e) hb (UL b o e hx) (I.base.keep b o e n hb hx) (I.base.free b o e n hx)
 ·obtain⟨sl,e1⟩:=I.base.slot b o e n hb hx;obtain⟨sl',e2⟩:=slot b _ (W5 b o e) hb (UL b o e hx) e1 (I.base.free b o e n hx);exact⟨sl',e2⟩
 ·obtain⟨o',e1⟩:=I.base.there b o e hx;exact free b o' (UL b o e hx) e1 (I.base.free b o e n hx)
 ·obtain⟨o',e1⟩:=I.base.there b o e hx;exact there b o' (UL b o e hx) e1
 ·obtain⟨m1,e1⟩:=I.base.tbls b ps e;obtain⟨m2,e2⟩:=tbls b _ e1;exact⟨m1++m2,by rw[e2,Array.append_assoc]⟩
 ·obtain⟨m,hn,hl⟩:=I.loc;refine⟨m,ns m hn,λi x v e1 e2 e3=>?_⟩;obtain⟨u,r,l⟩:=hl i x v e1 e2 e3;refine⟨u,r,?_⟩;rcases l with l|⟨k,c,e,z⟩
  ·exact .inl l
  ·exact .inr ⟨k,c,e,N4 x c e _ z⟩
 ·obtain⟨v,z⟩:=I.cell x c e;exact⟨v,N4 x c e v z⟩
 ·obtain⟨m,⟨o,_,_,ho,_⟩,_⟩:=I.loc;exact free _ o (λz=>(J0 _ z).2.1 rfl) ho I.free
 ·obtain⟨v,o,ho,hd⟩:=I.cell x c e;exact free c o (λz=>(J0 c z).2.2.1 x c e rfl) ho (I.freeC x c e)
 ·obtain⟨e,n,ne,nf,d⟩:=I.pin p hp;have TF:p.1∉ch:=λz=>(J0 p.1 z).2.2.2 p hp rfl;exact⟨keep p.1 p.2 ne nf TF e n,free p.1 p.2 TF e n,ne,nf,d⟩
theorem aL.un {t':Nat}(I:aL X pins σ H s)(u:Un X.fs [] H H' s.heap h')(hok:lB X.prog X.w H' h'):aL X pins σ H' {s with heap:=h',toks:=t'}:=by
 obtain⟨m,⟨o,es,ep,ho,r⟩,_⟩:=id I.loc;obtain⟨sl,hL⟩:=u.any ho I.free (by simp);exact I.step (g':=s.gens) (d':=s.drawn) (ch:=[]) (λ_ z=>nomatch z) (λb o _ hb _ e n=>u.keep b o e n hb (by simp)) (λb o _ hb _ e n=>u.slot b o e n hb (by simp)) (λb o _ e n=>u.free b o e n (by simp)) (λb o _ e=>u.there b o e (by simp)) u.tups u.frzs u.tbls (λm' hm=>by
  obtain⟨o',JS,ep',Mx,r'⟩:=hm;rw[ho] at Mx;cases Mx;exact⟨_,JS,ep',hL,r'⟩) hok I.bare
theorem aL.call {t':Nat}{g':Array GenState}{d':Drawn}(I:aL X pins σ H s)(u:Un (CF X.stack) ch H H' s.heap h')(hok:lB X.prog X.w H' h')(hg:AllBare g')(J0:∀b∈ch,(b∈X.ex\/X.s₀.heap.objs.size<=b)/\b≠X.env.locals/\(∀x c,X.env.cells.lookup x=some c->c≠b)/\∀p∈X.pn++pins,p.1≠b) :
  aL X pins σ H' {s with heap:=h',gens:=g',drawn:=d',toks:=t'}:=by
 obtain⟨m,⟨o,es,ep,ho,r⟩,_⟩:=id I.loc;obtain⟨sl,hL⟩:=u.any ho I.free λz=>(J0 _ z).2.1 rfl;exact I.step (ch:=ch) J0 (λb o hL hb hc e n=>u.keep b o e n (λz=>(ZX.mp (I.stkSub b z)).elim hL hb) hc) (λb o _ _ hc e n=>u.any e n hc) (λb o hc e n=>u.free b o e n hc) (λb o hc e=>u.there b o e hc) u.tups u.frzs u.tbls (λm' hm=>by
  obtain⟨o',JS,ep',Mx,r'⟩:=hm;rw[ho] at Mx;cases Mx;exact⟨_,JS,ep',hL,r'⟩) hok hg
theorem aL.turned {t':Nat}(I:aL X pins σ H s)(k:∀b o,b≠it->s.heap.get? b=some o->h'.get? b=some o)(hn:H it=none)(hL:it≠X.env.locals)(h1:it∈X.ex\/X.s₀.heap.objs.size<=it)(h2:∀x c,X.env.cells.lookup x=some c->c≠it)(h3:∀p∈X.pn++pins,p.1≠it):aL X pins σ H {s with heap:=h',toks:=t'}:=by
 have W6:∀b u,H b=some u->b≠it:=λb u e z=>by rw[z,hn] at e;cases e
 refine I.step (g':=s.gens) (d':=s.drawn) (ch:=[it]) (λb hb=>?_) (λb o _ _ hc e _=>k b o (λz=>hc (by simp[z])) e) (λb o _ _ hc e _=>⟨o.slots,k b o (λz=>hc (by simp[z])) e⟩) (λ_ _ _ _ n=>n)
  (λb o hc e=>⟨o,k b o (λz=>hc (by simp[z])) e⟩) (λ_ _ e=>e) (λ_ _ _ e=>e) (λb ps e=>⟨#[],by rw[e];simp⟩) (λm hm=>?_) (λb u e=>?_) I.bare
 ·have e:b=it:=by simpa using hb
  subst e;exact⟨h1,hL,h2,h3⟩
 ·obtain⟨o,es,ep,ho,r⟩:=hm;exact⟨o,es,ep,k _ o (Ne.symm hL) ho,r⟩
 ·refine (I.hok b u e).stay (λc v hc q=>k c v ?_ q) (λ_ q=>q) λ_ _ q=>q;rcases hc with z|z
  ·rw[z];exact W6 b u e
  ·exact W6 c _ z
theorem aL.tok (I:aL X pins σ H s)(t:Nat):aL X pins σ H {s with toks:=t}:=I.un (h':=s.heap) (t':=t) Un.refl I.hok
theorem aL.kept {t':Nat}(I:aL X pins σ H s)(k:∀b u,s.heap.get? b=some u->h'.get? b=some u):aL X pins σ H {s with heap:=h',toks:=t'}:=I.un (Un.kept k) (I.hok.kept k)
theorem aL.laid {t':Nat}{o:HO}(I:aL X pins σ H s)(k:∀b u,s.heap.get? b=some u->h'.get? b=some u)(hp:s.heap.objs.size<=a)(new:dH X.prog X.w (cH H a o) h' a o) :
  aL X pins σ (cH H a o) {s with heap:=h',toks:=t'}:=I.un (Un.laid k hp (I.hok.fresh hp)) (I.hok.laid k hp new)
theorem aL.write {t':Nat}{x e:Z_}{o:HO}(I:aL X pins σ H s)(mu:QU (H x))(he:e=x\/H e=some (.own x))(k:∀b u,b≠e->s.heap.get? b=some u->h'.get? b=some u)(Q3:∃u,h'.get? e=some u)(new:dH X.prog X.w (cH H x o) h' x o):aL X pins σ (cH H x o) {s with heap:=h',toks:=t'}:=I.un (Un.write mu he k Q3) (I.hok.write mu he k Q3 new)
theorem aL.pins_of {N5:List (Z_×Obj)}(I:aL X pins σ H s)(h:∀p∈N5,s.heap.get? p.1=some p.2/\H p.1=none/\p.1≠X.env.locals/\p.1∉X.fs/\∀v,p.2.data≠.cell v):aL X N5 σ H s:=
 ⟨I.ok,I.os,I.bare,I.base,I.loc,I.cell,I.free,I.freeC,λp hp=>(aam.mp hp).elim (λz=>I.pin p (aaE _ z)) (h p),I.hok,I.len⟩
theorem yR (hN:N.Nodup)(a:N[i]? = some x)(b:N[j]? = some x):i=j:=by
 obtain⟨h1,e1⟩:=ZQ.mp a;obtain⟨h2,e2⟩:=ZQ.mp b;exact (List.getElem_inj hN).mp (e1.trans e2.symm)
theorem vW {A:aaC}{u:ZR}{Q:Unit->Z5->Prop}(I:aL X pins σ H s)(hN:X.N.Nodup)(hi:X.N[i]? = some x)(hx:Ka X.env.scope x)(r:aZ v u)(h:∀s',aL X pins (σ.set i (some v)) H s'->(∃a,aa0 a s.heap s'.heap/\(a=X.env.locals\/X.env.cells.lookup x=some a))->Q () s')(hf:X.fn x=true\/X.env.scope.names.lookup x=some .local:=by first|exact .inl rfl|exact .inr rfl|assumption):aac M A (storeName X.env x u) Q E s:=by
 obtain⟨m,hn,hl⟩:=id I.loc;have VL:(X.env.scope.kind==.class||(X.env.scope.kind==.module&&X.env.locals != X.env.globals))=false:=by rw[I.ok.kind];rfl
 have W7:i<σ.length:=by rw[I.len];exact (ZQ.mp hi).1
 have cne:=I.cne;have Eu:∀{a:Z_} {h':acz},(∃o,s.heap.get? a=some o/\H a=none)->aa0 a s.heap h'->lB X.prog X.w H h':=λ{a h'} ha hs b ob e=>by
  obtain⟨_,_,vh⟩:=ha;refine (I.hok b ob e).stay (λc w' hc q=>(hs.2 c ?_).trans q) (λ_ q=>q) λ_ _ q=>q;rintro rfl;rcases hc with rfl|hc
  ·rw[vh] at e;cases e
  ·rw[vh] at hc;cases hc
 rcases hx with hk|hk
 ·refine wpAny_storeName_local hk hn (λh' Mp hs=>?_) VL;obtain⟨oL,_,_,QI,_⟩:=id hn;refine h _ ⟨I.ok,I.os,I.bare,⟨λb o e n hb hx=>?_,λb o e n hb hx=>?_,I.base.free,λb o e hx=>?_,I.base.tups,I.base.frzs,I.base.tbls⟩,⟨_,Mp,λj y v' e1 e2 e3=>?_⟩,λy c e=>?_,I.free,I.freeC,λp hp=>?_,Eu ⟨oL,QI,I.free⟩ hs,by simpa using I.len⟩ ⟨_,hs,.inl rfl⟩
  ·exact (hs.2 b (aah (aak (Z4 e) I.ok.above))).trans (I.base.keep b o e n hb hx)
  ·obtain⟨sl,e1⟩:=I.base.slot b o e n hb hx;exact⟨sl,(hs.2 b (aah (aak (Z4 e) I.ok.above))).trans e1⟩
  ·obtain⟨o',e1⟩:=I.base.there b o e hx;exact⟨o',(hs.2 b (aah (aak (Z4 e) I.ok.above))).trans e1⟩
  ·by_cases hj:j=i
   ·subst hj;rw[hi] at e1;cases e1;rw[aa2 W7] at e2;cases e2;exact⟨u,r,.inl ⟨hk,by simp⟩⟩
   ·rw[aal (Ne.symm hj)] at e2;obtain⟨u',r',q⟩:=hl j y v' e1 e2 e3;refine⟨u',r',?_⟩;rcases q with⟨k,e⟩|⟨k,c,e,z⟩
    ·refine .inl ⟨k,?_⟩;have:y≠x:=λe=>hj (yR hN e1 (e▸hi));simp[this,e]
    ·exact .inr ⟨k,c,e,z.sameBut hs (cne y c e)⟩
  ·obtain⟨w',z⟩:=I.cell y c e;exact⟨w',z.sameBut hs (cne y c e)⟩
  ·obtain⟨e,n,ne,nf,d⟩:=I.pin p hp;exact⟨(hs.2 p.1 ne).trans e,n,ne,nf,d⟩
 ·have VM:X.fn x=true:=by
   rcases hf with z|z
   ·exact z
   ·rw[z] at hk;cases hk
  obtain⟨c,hc⟩:=I.ok.has x (.inl hk);obtain⟨w',z⟩:=I.cell x c hc;refine wpAny_storeName_cell I.ok.kind hk hc z (λh' W8 hs=>?_);obtain⟨oc,hoc,hocd⟩:=id z;refine h {s with heap:=h'} ⟨I.ok,I.os,I.bare,⟨λb o e n hb hx=>?_,λb o e n hb hx=>?_,I.base.free,λb o e hx=>?_,I.base.tups,I.base.frzs,I.base.tbls⟩,⟨m,hn.sameBut hs (Ne.symm (cne x c hc)),λj y v' e1 e2 e3=>?_⟩,λy c' e=>?_,I.free,I.freeC,λp hp=>?_,Eu ⟨oc,hoc,I.freeC x c hc⟩ hs,by simpa using I.len⟩ ⟨c,hs,.inr hc⟩
  ·exact (hs.2 b (aah (aak (Z4 e) (I.ok.cab x c VM hc)))).trans (I.base.keep b o e n hb hx)
  ·obtain⟨sl,e1⟩:=I.base.slot b o e n hb hx;exact⟨sl,(hs.2 b (aah (aak (Z4 e) (I.ok.cab x c VM hc)))).trans e1⟩
  ·obtain⟨o',e1⟩:=I.base.there b o e hx;exact⟨o',(hs.2 b (aah (aak (Z4 e) (I.ok.cab x c VM hc)))).trans e1⟩
  ·by_cases hj:j=i
   ·subst hj;rw[hi] at e1;cases e1;rw[aa2 W7] at e2;cases e2;exact⟨u,r,.inr ⟨.inl hk,c,hc,W8⟩⟩
   ·rw[aal (Ne.symm hj)] at e2;obtain⟨u',r',q⟩:=hl j y v' e1 e2 e3;refine⟨u',r',?_⟩;rcases q with q|⟨k,c',e,z'⟩
    ·exact .inl q
    ·refine .inr ⟨k,c',e,z'.sameBut hs ?_⟩;rintro rfl;exact hj (yR hN e1 (I.ok.inj _ _ _ e hc▸hi))
  ·by_cases hcc:c'=c
   ·subst hcc;exact⟨_,W8⟩
   ·obtain⟨w2,z2⟩:=I.cell y c' e;exact⟨w2,z2.sameBut hs hcc⟩
  ·obtain⟨e,n,ne,nf,d⟩:=I.pin p hp;refine⟨(hs.2 p.1 ?_).trans e,n,ne,nf,d⟩;intro q;rw[q,hoc] at e;have q':oc=p.2:=aab e;exact d w' (by rw[←q'];exact hocd)
theorem yS {A:aaC}{u:ZR}{Q:Unit->Z5->Prop}(I:aL X pins σ H s)(hN:X.N.Nodup)(hi:X.N[i]? = some x)(hx:Ka X.env.scope x)(r:aZ v u)(h:∀s',aL X pins (σ.set i (some v)) H s'->Q () s')(hf:X.fn x=true\/X.env.scope.names.lookup x=some .local:=by first|exact .inl rfl|exact .inr rfl|assumption):aac M A (storeName X.env x u) Q E s:=
 vW I hN hi hx r (λs' I' _=>h s' I') hf
theorem aL.call' {s':Z5}(I:aL X pins σ H s)(ho:s'.os=s.os)(u:Un (CF X.stack) ch H H' s.heap s'.heap)(hok:lB X.prog X.w H' s'.heap)(hg:AllBare s'.gens)(J0:∀b∈ch,(b∈X.ex\/X.s₀.heap.objs.size<=b)/\b≠X.env.locals/\(∀x c,X.env.cells.lookup x=some c->c≠b)/\∀p∈X.pn++pins,p.1≠b):aL X pins σ H' s':=by
 obtain⟨h',g',d',t',o'⟩:=s';have e:o'=s.os:=ho;subst e;exact I.call (g':=g') (t':=t') (d':=d') u hok hg J0
end
abbrev XK:=ZR->Option Z_->Hp->Prop
abbrev St:=List (Option V)
abbrev VK:=V->Hp->Prop
abbrev TE:=St->Hp->VK->Prop
abbrev TT:=St->Hp->(Bool->Hp->Prop)->Prop
abbrev TA:=St->Hp->(List V->Hp->Prop)->Prop
structure nA where
 nx:St->Hp->Prop
 rt:VK
 bk:St->Hp->Prop:=λ_ _=>False
 ct:St->Hp->Prop:=λ_ _=>False
abbrev TS:=nA->St->Hp->Prop
def EP (X:Cx)(pins:List (Z_×Obj))(σ:St)(Q:VK)(u:ZR)(s':Z5):Prop:=∃v H',aL X pins σ H' s'/\aZ v u/\Q v H'
def TP (X:Cx)(pins:List (Z_×Obj))(σ:St)(Q:Bool->Hp->Prop)(b:Bool)(s':Z5):Prop:=∃H',aL X pins σ H' s'/\Q b H'
def AP (X:Cx)(pins:List (Z_×Obj))(σ:St)(Q:List V->Hp->Prop)(us:List ZR)(s':Z5):Prop:=∃vs H',aL X pins σ H' s'/\bg vs us/\Q vs H'
def SP (X:Cx)(pins:List (Z_×Obj))(D:nA)(f:Flow)(s':Z5):Prop:=
 match f with
 | .next=>∃σ' H',aL X pins σ' H' s'/\D.nx σ' H'
 | .brk=>∃σ' H',aL X pins σ' H' s'/\D.bk σ' H'
 | .cont=>∃σ' H',aL X pins σ' H' s'/\D.ct σ' H'
 | .ret u=>∃v σ' H',aL X pins σ' H' s'/\aZ v u/\D.rt v H'
def PE (X:Cx)(e:abH)(t:TE):Prop:=
 ∀(pins:List (Z_×Obj)) (s:Z5) (σ:St) (H:Hp) (Q:VK),aL X pins σ H s->t σ H Q->aac (aan X.prog X.w) X.A (acD e X.env) (EP X pins σ Q) X.xe s
def PT (X:Cx)(e:abH)(t:TT):Prop:=
 ∀(pins:List (Z_×Obj)) (s:Z5) (σ:St) (H:Hp) (Q:Bool->Hp->Prop),aL X pins σ H s->t σ H Q->aac (aan X.prog X.w) X.A (isTrue e X.env (acD e X.env)) (TP X pins σ Q) X.xe s
def PW (X:Cx)(e:abH)(t:TT):Prop:=
 ∀(whole:Sem ZR) (pins:List (Z_×Obj)) (s:Z5) (σ:St) (H:Hp) (Q:Bool->Hp->Prop),aL X pins σ H s->t σ H Q->aac (aan X.prog X.w) X.A (isTrue e X.env whole) (TP X pins σ Q) X.xe s
theorem PW.pt {X:Cx}{e:abH}{t:TT}(h:PW X e t):PT X e t:=h _
def PA (X:Cx)(es:List abH)(t:TA):Prop:=
 ∀(pos:Pos) (pins:List (Z_×Obj)) (s:Z5) (σ:St) (H:Hp) (Q:List V->Hp->Prop),aL X pins σ H s->t σ H Q->aac (aan X.prog X.w) X.A (spliced (abW pos (Z8 es X.env))) (AP X pins σ Q) X.xe s
def PS (X:Cx)(st:adh)(t:TS):Prop:=
 ∀(pins:List (Z_×Obj)) (s:Z5) (σ:St) (H:Hp) (D:nA),aL X pins σ H s->t D σ H->aac (aan X.prog X.w) X.A (exec st X.env) (SP X pins D) X.xe s
def vt (X:Cx)(st:List adh)(t:TS):Prop:=
 ∀(pins:List (Z_×Obj)) (s:Z5) (σ:St) (H:Hp) (D:nA),aL X pins σ H s->t D σ H->aac (aan X.prog X.w) X.A (execs st X.env) (SP X pins D) X.xe s
theorem fQ {α:Type}{t:Sem α}{Q Q':α->Z5->Prop}{A:aaC}(h:aac M A t Q E s)(hQ:∀a s,Q a s->Q' a s):aac M A t Q' E s:=aaM h hQ λ_ _ x=>x
end L2
variable {X:L2.Cx}{σ:L2.St}{te:L2.TE}
namespace L2
section
def Kb (i:Nat):TE:=λσ H Q=>∃v,σ[i]? = some (some v)/\Q v H
def tC (v:V):TE:=λ_ H Q=>Q v H
theorem f6 {pos:Pos}(hN:X.N[i]? = some x)(hv:A8 X.env.scope x)(hd:(x==("__debug__":Str))=false:=by decide)(ly:(x==("__classdict__":Str))=false:=by decide):PE X (.Name x pos) (Kb i):=by
 intro pins s σ H Q I h;obtain⟨v,e,h⟩:=h;obtain⟨m,hn,hl⟩:=I.loc;obtain⟨u,r,l⟩:=hl i x v hN e hv;have fin:EP X pins σ Q u s:=⟨v,H,I,r,h⟩;rcases l with⟨hk,hm⟩|⟨hk,c,hc,EA⟩
 ·exact wpAny_Name (wpAny_loadName_local I.ok.kind hk hn hm fin) hd
 ·rcases hk with hk|hk
  ·exact wpAny_Name (wpAny_loadName_cell I.ok.kind hk hc EA fin) hd
  ·exact wpAny_Name (wpAny_loadName_free I.ok.kind hk hc EA fin ly) hd
theorem F4 {i j pos}:PE X (.Constant (.int i) j pos) (tC (.int i)):=λ_ _ _ H _ I h=>wpAny_Constant_int ⟨.int i,H,I.tok _,⟨_,rfl⟩,h⟩
theorem Q8 {b j pos}:PE X (.Constant (.bool b) j pos) (tC (.bl b)):=λ_ _ _ H _ I h=>Constant_bool ⟨.bl b,H,I,rfl,h⟩
theorem Om {j pos}:PE X (.Constant .none j pos) (tC .non):=λ_ _ _ H _ I h=>Constant_none ⟨.non,H,I,rfl,h⟩
theorem Oo {x j pos}:PE X (.Constant (.str x) j pos) (tC (.str x)):=λ_ _ _ H _ I h=>Calls.Constant_str ⟨.str x,H,I.tok _,⟨_,rfl⟩,h⟩
def Gl (X:Cx)(x:Str):Prop:=X.env.kindOf x=some .globalImplicit
theorem Kc {u:ZR}{pos:Pos}(I:aL X pins σ H s)(hg:Gl X x)(hm:X.mg x=some u)(h:Q u s)(hd:(x==("__debug__":Str))=false:=by decide):aac (aan X.prog X.w) X.A (acD (.Name x pos) X.env) Q E s:=
 aey I.ok.kind hg (Calls.loadGlobal_global (by rw[I.ok.glob];exact I.mod.glob.keeps I.bk) hm h) hd
theorem sT {u:ZR}{pos:Pos}(I:aL X pins σ H s)(hg:Gl X x)(hm:X.mg x=none)(hv:aaO x=some u)(h:Q u s)(hn:x≠"__name__":=by decide)(hd:(x==("__debug__":Str))=false:=by decide):aac (aan X.prog X.w) X.A (acD (.Name x pos) X.env) Q E s:=by
 obtain⟨mb,h1,h2⟩:=I.mod.blt;exact aey I.ok.kind hg (Calls.loadGlobal_builtin (by rw[I.ok.glob];exact I.mod.glob.keeps I.bk) hm (by rw[I.ok.blt];exact h1.keeps I.bk) ((h2 x hn).trans hv) h) hd
variable {a b:abH}{ta tb:TE}{pos:Pos}
def tB (t:TE):TT:=λσ H Q=>t σ H λx H1=>∃c,x=.bl c/\Q c H1
theorem Oq {e:abH}{t:TE}(h:PE X e t)(he:∀whole,isTrue e X.env whole=(do let v ←whole;standAt e.pos;adi [v] (truthy v)):=by intro _;rfl):PT X e (tB t):=by
 intro pins s σ H Q I hw;refine isTrue_plain (fQ (h pins s σ H _ I hw) λv s1 ⟨x,H1,I1,r1,q1⟩=>?_) (he _);obtain⟨d,rfl,q⟩:=q1;cases r1;exact aeW ⟨H1,I1,q⟩
variable {tA tB':TT}{rest:List abH}
def Q9 (t u:TT):TT:=λσ H Q=>t σ H λc H1=>if c=true then u σ H1 Q else Q false H1
def Wo (t u:TT):TT:=λσ H Q=>t σ H λc H1=>if c=true then Q true H1 else u σ H1 Q
def UT (t:TT):TT:=λσ H Q=>t σ H λc H1=>Q (!c) H1
theorem Kd (ha:PT X a tA):PW X (.BoolOp .And [a] pos) tA:=by
 intro wh pins s σ H Q I h;refine isTrue_and (fQ (ha pins s σ H Q I h) λc s1 e=>?_);cases c with
 |true=>exact isTrue_and_nil e
 |false=>exact e
theorem Ot (ha:PT X a tA):PW X (.BoolOp .Or [a] pos) tA:=by
 intro wh pins s σ H Q I h;refine isTrue_or (fQ (ha pins s σ H Q I h) λc s1 e=>?_);cases c with
 |false=>exact isTrue_or_nil e
 |true=>exact e
theorem Ou (ha:PT X a tA)(hb:PW X (.BoolOp .And (b::rest) pos) tB'):PW X (.BoolOp .And (a::b::rest) pos) (Q9 tA tB'):=by
 intro wh pins s σ H Q I h;refine isTrue_and (fQ (ha pins s σ H _ I h) λc s1 ⟨H1,I1,q1⟩=>?_);cases c with
 |true=>exact hb wh pins s1 σ H1 Q I1 q1
 |false=>exact⟨H1,I1,q1⟩
theorem Q_ (ha:PT X a tA)(hb:PW X (.BoolOp .Or (b::rest) pos) tB'):PW X (.BoolOp .Or (a::b::rest) pos) (Wo tA tB'):=by
 intro wh pins s σ H Q I h;refine isTrue_or (fQ (ha pins s σ H _ I h) λc s1 ⟨H1,I1,q1⟩=>?_);cases c with
 |true=>exact⟨H1,I1,q1⟩
 |false=>exact hb wh pins s1 σ H1 Q I1 q1
theorem Ov (ha:PT X a tA):PT X (.UnaryOp .Not a pos) (UT tA):=by
 intro pins s σ H Q I h;exact isTrue_not (ha pins s σ H (λc H1=>Q (!c) H1) I h)
def XG (t:TT)(ta tb:TE):TE:=λσ H Q=>t σ H λc H1=>if c=true then ta σ H1 Q else tb σ H1 Q
theorem F5 (hc:PT X c tA)(ha:PE X a ta)(hb:PE X b tb):PE X (.IfExp c a b pos) (XG tA ta tb):=by
 intro pins s σ H Q I h;refine wpAny_IfExp (fQ (hc pins s σ H _ I h) λd s1 ⟨H1,I1,q1⟩=>?_);cases d with
 |true=>exact ha pins s1 σ H1 Q I1 q1
 |false=>exact hb pins s1 σ H1 Q I1 q1
end
end L2
namespace L2
def fu (K:ZN)(H:Hp)(a:Z_)(xs:List V):Prop:=
 Rd H a (.lst xs) \/
  ∃(o:Obj) (aD:Array ZR) (n:Nat),K.lookup a=some o/\o.cls=.type "list"/\o.dict=none/\o.data=.seq aD n/\aD.size<=ZL/\bg xs aD.toList
def iC (K:ZN)(H:Hp)(a:Z_)(xs:List V):Prop:=
 Rd H a (.tup xs) \/
  ∃(o:Obj) (aD:Array ZR) (n:Nat),K.lookup a=some o/\o.cls=.type "tuple"/\o.data=.seq aD n/\aD.size<=ZL/\bg xs aD.toList
def UU:ZR->Option V
 | .none=>some .non
 | .bool b=>some (.bl b)
 | .int i _=>some (.int i)
 | .str x _=>some (.str x)
 | .bytes b _=>some (.byt b)
 | .float b _=>some (.flt b)
 | .ref a=>some (.ref a)
 | .type n=>some (.ty n)
 |_=>none
theorem aZ.abs {x:V}{u:ZR}(r:aZ x u):UU u=some x:=by
 cases x with
 |non=>cases r;rfl
 |bl _=>cases r;rfl
 |int _=>obtain⟨t,rfl⟩:=r;rfl
 |str _=>obtain⟨t,rfl⟩:=r;rfl
 |byt _=>obtain⟨t,rfl⟩:=r;rfl
 |flt _=>obtain⟨t,rfl⟩:=r;rfl
 |ref _=>cases r;rfl
 |ty _=>cases r;rfl
theorem aZ.inj {x:V}{u:ZR}(r:aZ x u)(q:aZ y u):x=y:=aab (r.abs.symm.trans q.abs)
theorem bg.inj:∀{xs ys:List V} {us:List ZR},bg xs us->bg ys us->xs=ys
 |_,_,_,.nil,.nil=>rfl
 |_,_,_,.cons r t,.cons r' t'=>by rw[r.inj r',bg.inj t t']
section
variable {ys:List V}
theorem fu.of (h:H a=some (.lst xs)):fu K H a xs:=.inl (.inl h)
theorem iC.of (h:H a=some (.tup xs)):iC K H a xs:=.inl (.inl h)
theorem aL.list (I:aL X pins σ H s)(h:fu X.K H a xs):∃aD:List ZR,bg xs aD/\PlainL s.heap a aD.toArray/\xs.length<=ZL:=by
 rcases h with h|⟨o,aD,n,hk,hc,hd,hs,hz,r⟩
 ·obtain⟨z,aD,n,r,e⟩:=h.ok I.hok;exact⟨aD,r,⟨_,n,e,rfl,rfl,rfl⟩,z⟩
 ·refine⟨aD.toList,r,⟨o,n,I.kIn a o hk,hc,hd,by simpa using hs⟩,?_⟩;have e:=r.length;simp only[aao] at e;lia
theorem aL.tuple (I:aL X pins σ H s)(h:iC X.K H a xs):∃aD:List ZR,bg xs aD/\IsTup s.heap a aD.toArray/\xs.length<=ZL:=by
 rcases h with h|⟨o,aD,n,hk,hc,hs,hz,r⟩
 ·obtain⟨z,aD,r,p,_⟩:=h.ok I.hok;exact⟨aD,r,p,z⟩
 ·refine⟨aD.toList,r,⟨o,I.kIn a o hk,hc,n,by simpa using hs⟩,?_⟩;have e:=r.length;simp only[aao] at e;lia
theorem aL.list_inj (I:aL X pins σ H s)(h:fu X.K H a xs)(h':fu X.K H a ys):xs=ys:=by
 obtain⟨aD,r,⟨o,n,e,_,_,d⟩,_⟩:=I.list h;obtain⟨its',r',⟨o',n',e',_,_,d'⟩,_⟩:=I.list h';rw[e] at e';cases e';rw[d] at d';injection d' with d1 _
 have:aD=its':=by simpa using congrArg Array.toList d1
 subst this;exact r.inj r'
theorem aL.tuple_inj (I:aL X pins σ H s)(h:iC X.K H a xs)(h':iC X.K H a ys):xs=ys:=by
 obtain⟨aD,r,⟨o,e,_,n,d⟩,_⟩:=I.tuple h;obtain⟨its',r',⟨o',e',_,n',d'⟩,_⟩:=I.tuple h';rw[e] at e';cases e';rw[d] at d';injection d' with d1 _
 have:aD=its':=by simpa using congrArg Array.toList d1
 subst this;exact r.inj r'
end
abbrev Cx.wish (X:Cx)(E:ZR->Z5->Prop):Cx:={X with xe:=E}
abbrev Cx.nox (X:Cx):Cx:=X.wish λ_ _=>False
theorem Cx.Ok.wish (ok:X.Ok)(E:ZR->Z5->Prop):(X.wish E).Ok:=
 ⟨ok.mod,ok.kind,ok.glob,ok.blt,ok.above,ok.inj,ok.has,ok.cab,ok.hd,ok.frames,ok.stk,ok.exf,ok.bs,ok.bsz,ok.noex,ok.exfs,ok.funs,ok.frf⟩
theorem Cx.Ok.unwish (ok:(X.wish E).Ok):X.Ok:=
 ⟨ok.mod,ok.kind,ok.glob,ok.blt,ok.above,ok.inj,ok.has,ok.cab,ok.hd,ok.frames,ok.stk,ok.exf,ok.bs,ok.bsz,ok.noex,ok.exfs,ok.funs,ok.frf⟩
theorem aL.wish (I:aL X pins σ H s)(E:ZR->Z5->Prop):aL (X.wish E) pins σ H s:=⟨I.ok.wish E,I.os,I.bare,I.base,I.loc,I.cell,I.free,I.freeC,I.pin,I.hok,I.len⟩
theorem aL.unwish (I:aL (X.wish E) pins σ H s):aL X pins σ H s:=⟨I.ok.unwish,I.os,I.bare,I.base,I.loc,I.cell,I.free,I.freeC,I.pin,I.hok,I.len⟩
theorem SP.unwish {D:nA}{f:Flow}{s':Z5}(h:SP (X.wish E) pins D f s'):SP X pins D f s':=by
 cases f with
 |next=>obtain⟨σ',H',I,q⟩:=h;exact⟨σ',H',I.unwish,q⟩
 |brk=>obtain⟨σ',H',I,q⟩:=h;exact⟨σ',H',I.unwish,q⟩
 |cont=>obtain⟨σ',H',I,q⟩:=h;exact⟨σ',H',I.unwish,q⟩
 |ret u=>obtain⟨v,σ',H',I,r,q⟩:=h;exact⟨v,σ',H',I.unwish,r,q⟩
theorem vt.nox {st:List adh}{t:TS}(h:vt X.nox st t):vt X st t:=λpins s σ H D I hw=>
 aaM (h pins s σ H D (I.wish _) hw) (λ_ _ q=>q.unwish) λ_ _ z=>acR z
section
variable {rest:List adh}{t u:TS}{e:abH}{pos:Pos}
def Ra:TS:=λD σ H=>D.nx σ H
def UW (t u:TS):TS:=λD σ H=>t {D with nx:=u D} σ H
theorem CG:vt X [] Ra:=λ_ _ σ H _ I h=>aeo ⟨σ,H,I,h⟩
theorem yT (h1:PS X st t)(h2:vt X rest u):vt X (st::rest) (UW t u):=by
 intro pins s σ H D I h;refine wpAny_execs_cons (fQ (h1 pins s σ H {D with nx:=u D} I h) λf s1 q=>?_);cases f with
 |next=>
  obtain⟨σ',H',I',q⟩:=q;exact h2 pins s1 σ' H' D I' q
 |ret v=>exact q
 |brk=>exact q
 |cont=>exact q
theorem CH (h1:PS X st t):vt X [st] t:=by
 intro pins s σ H D I h;refine wpAny_execs_cons (fQ (h1 pins s σ H D I h) λf s1 q=>?_);cases f with
 |next=>exact aeo q
 |ret v=>exact q
 |brk=>exact q
 |cont=>exact q
theorem aL.quiet (I:aL X pins σ H s):interactive X.env=false:=by simp[interactive,I.ok.kind]
def Rb (te:TE):TS:=λD σ H=>te σ H λ_ H1=>D.nx σ H1
theorem CI (he:PE X e te)(hs:ac3 e none pos.line X.env=pure false:=by rfl):PS X (.Expr e pos) (Rb te):=by
 intro pins s σ H D I h;exact wpAny_Expr_any (fQ (he pins s σ H _ I h) λv s1 ⟨x,H1,I1,r1,q1⟩=>⟨σ,H1,I1,q1⟩) I.quiet hs
def UX (te:TE):TS:=λD σ H=>te σ H D.rt
theorem A9 (he:PE X e te):PS X (.Return (some e) pos) (UX te):=by
 intro pins s σ H D I h;exact wpAny_Return_some (fQ (he pins s σ H _ I h) λv s1 ⟨x,H1,I1,r1,q1⟩=>⟨x,σ,H1,I1,r1,q1⟩)
def UY (c:TT)(t u:TS):TS:=λD σ H=>c σ H λb H1=>if b=true then t D σ H1 else u D σ H1
theorem My {a b:List adh}{tc:TT}(hc:PT X c tc)(ha:vt X a t)(hb:vt X b u):PS X (.If c a b pos) (UY tc t u):=by
 intro pins s σ H D I h;refine wpAny_If (fQ (hc pins s σ H _ I h) λd s1 ⟨H1,I1,q1⟩=>?_);cases d with
 |true=>exact ha pins s1 σ H1 D I1 q1
 |false=>exact hb pins s1 σ H1 D I1 q1
end
abbrev TG:=V->St->Hp->(St->Hp->Prop)->Prop
abbrev Ke:=List V->St->Hp->(St->Hp->Prop)->Prop
def PG (X:Cx)(qt:abH)(t:TG):Prop:=
 ∀(pins:List (Z_×Obj)) (s:Z5) (σ:St) (H:Hp) (v:V) (u:ZR) (Q:St->Hp->Prop),aL X pins σ H s->aZ v u->t v σ H Q->
  aac (aan X.prog X.w) X.A (ad3 qt X.env u) (λ_ s'=>∃σ' H',aL X pins σ' H' s'/\Q σ' H') X.xe s
def Mz (X:Cx)(ts:List abH)(t:Ke):Prop:=
 ∀(pins:List (Z_×Obj)) (s:Z5) (σ:St) (H:Hp) (vs:List V) (us:List ZR) (Q:St->Hp->Prop),aL X pins σ H s->bg vs us->t vs σ H Q->
  aac (aan X.prog X.w) X.A (assignInOrder ((abf ts X.env).map (·.2)) us) (λ_ s'=>∃σ' H',aL X pins σ' H' s'/\Q σ' H') X.xe s
abbrev Ow:=V->V->V->Hp->(Hp->Prop)->Prop
def Rc (X:Cx)(t:Ow):Prop:=
 ∀(pins:List (Z_×Obj)) (s:Z5) (σ:St) (H:Hp) (o i v:V) (ov iv u:ZR) (Q:Hp->Prop),aL X pins σ H s->aZ o ov->aZ i iv->aZ v u->t o i v H Q->
  aac (aan X.prog X.w) X.A (setItem ov iv u) (λ_ s'=>∃H',aL X pins σ H' s'/\Q H') X.xe s
section
variable {pos:Pos}
def yU (i:Nat):TG:=λv σ H Q=>Q (σ.set i (some v)) H
theorem Kg (hN:X.N.Nodup)(hi:X.N[i]? = some x)(hx:Ka X.env.scope x)(hf:X.fn x=true\/X.env.scope.names.lookup x=some .local:=by first|exact .inl rfl|exact .inr rfl|assumption):PG X (.Name x pos) (yU i):=by
 intro pins s σ H v u Q I r h;exact wpAny_assign_Name (yS I hN hi hx r (λs' I'=>⟨_,H,I',h⟩) hf)
def UZ:Ke:=λvs σ H Q=>vs=[]/\Q σ H
def Rf (t:TG)(u:Ke):Ke:=λvs σ H Q=>∃v r,vs=v::r/\t v σ H λσ' H'=>u r σ' H' Q
theorem CJ:Mz X [] UZ:=by
 intro pins s σ H vs us Q I r h;obtain⟨e,h⟩:=h;subst e;cases r;exact assignInOrder_nil ⟨σ,H,I,h⟩
theorem sU {e:abH}{es:List abH}{t:TG}{u:Ke}(h1:PG X e t)(h2:Mz X es u)
  (hs:(abf (e::es) X.env).map (·.2)=ad3 e X.env::(abf es X.env).map (·.2):=by rfl):Mz X (e::es) (Rf t u):=by
 intro pins s σ H vs us Q I r h;obtain⟨v,vr,e1,h⟩:=h;subst e1;cases r with
 |cons r rr=>
  rw[hs];refine assignInOrder_cons (fQ (h1 pins s σ H _ _ _ I r h) λ_ s1 ⟨σ1,H1,I1,q1⟩=>?_);exact h2 pins s1 σ1 H1 _ _ Q I1 rr q1
def U0 (K:ZN)(n:Nat)(t:Ke):TG:=λv σ H Q=>∃a xs,v=.ref a/\iC K H a xs/\xs.length=n/\t xs σ H Q
theorem F6 {es:List abH}{t:Ke}(hc:X.calm=true)(h:Mz X es t)(hn:(abf es X.env).length=n:=by rfl)(TH:(abf es X.env).findIdx? (·.1)=none:=by rfl):PG X (.Tuple es k pos) (U0 X.K n t):=by
 intro pins s σ H v u Q I r hw;obtain⟨a,xs,e1,hq,hl,hw⟩:=hw;subst e1;cases r;obtain⟨aD,rv,ht,hz⟩:=I.tuple hq;refine assign_Tuple_tuple (I.ok.hd hc) ht (by simp[hn,←hl,rv.length]) TH λh' hx=>?_;have I1:aL X pins σ H {s with heap:=h'}:=I.kept (t':=s.toks) λb o e=>hx b o (aah (Z4 e)) e;exact h pins _ σ H xs _ Q I1 (by simpa using rv) hw
def Rg (to ti:TE)(t:Ow):TG:=λv σ H Q=>to σ H λo H1=>ti σ H1 λi H2=>t o i v H2 λH3=>Q σ H3
theorem A_ {o i:abH}{to ti:TE}{t:Ow}(ho:PE X o to)(hi:PE X i ti)(hs:Rc X t)
  (ha:∀v,ad3 (.Subscript o i pos) X.env v=(do
   let ov ←adi [v] (acD o X.env)
   let iv ←adi [v,ov] (acD i X.env)
   standAt pos
   adi [v,ov,iv] (setItem ov iv v)
   release [v,ov,iv] []):=by intro _;rfl):PG X (.Subscript o i pos) (Rg to ti t):=by
 intro pins s σ H v u Q I r h;rw[ha];refine ZE (aa9 (fQ (ho pins s σ H _ I h) λov s1 ⟨x,H1,I1,r1,q1⟩=>?_));refine ZE (aa9 (fQ (hi pins s1 σ H1 _ I1 q1) λiv s2 ⟨y,H2,I2,r2,q2⟩=>?_));refine ZE (wpAny_standAt (ZE (aa9 (fQ (hs pins s2 σ H2 x y v ov iv u _ I2 r1 r2 r q2) λ_ s3 ⟨H3,I3,q3⟩=>?_))));exact wpAny_release ⟨σ,H3,I3,q3⟩
def F7 (te:TE)(g:TG):TS:=λD σ H=>te σ H λx H1=>g x σ H1 D.nx
theorem Ba {e:abH}{g:TG}(he:PE X e te)(hg:PG X tg g)(hs:swapsWithSole [tg] e pos.line X.env=pure false:=by rfl)(hw:swappedStores [tg] e X.env=pure none:=by rfl)(h1:(abf [tg] X.env).map (·.2)=[ad3 tg X.env]:=by rfl):PS X (.Assign [tg] e pos) (F7 te g):=by
 intro pins s σ H D I h;refine wpAny_Assign_stores (fQ (he pins s σ H _ I h) λv s1 ⟨x,H1,I1,r1,q1⟩=>?_) hs hw;rw[h1];exact fQ (hg pins s1 σ H1 x v _ I1 r1 q1) λ_ s2 q=>q
theorem F8 {e:abH}{jD:Pos}(hN:X.N.Nodup)(hi:X.N[i]? = some x)(hx:Ka X.env.scope x)(he:PE X e te)(hs:ac3 e (some (.Name x jD)) pos.line X.env=pure false:=by rfl)(hf:X.fn x=true\/X.env.scope.names.lookup x=some .local:=by first|exact .inl rfl|exact .inr rfl|assumption) :
  PS X (.Assign [.Name x jD] e pos) (F7 te (yU i)):=by
 intro pins s σ H D I h;refine wpAny_Assign_Name (fQ (he pins s σ H _ I h) λv s1 ⟨y,H1,I1,r1,q1⟩=>?_) hs;exact yS I1 hN hi hx r1 (λs2 I2=>⟨_,H1,I2,q1⟩) hf
end
section
variable {pos:Pos}
def Ox (c:TT)(tb:TS):TS:=λD σ H=>∃W:Nat->St->Hp->Prop,(∃m,W m σ H)/\∀m σ H,W m σ H->
 c σ H λb H1=>if b=true then ∃N:St->Hp->Prop,(∀σ' H',N σ' H'->∃m',m'<m/\W m' σ' H')/\tb {D with nx:=N,ct:=N,bk:=D.nx} σ H1 else D.nx σ H1
theorem F9 {tc:TT}{tb:TS}(hp:ae8 (aan X.prog X.w) X.A X.env X.xe)(hc:PT X c tc)(hb:vt X body tb):PS X (.While c body [] pos) (Ox tc tb):=by
 intro pins s σ H D I h;obtain⟨W,⟨m0,w0⟩,turn⟩:=h;refine wpAny_While (codeAny_whileLoop (λn s'=>∃σ' H',aL X pins σ' H' s'/\W n σ' H') ?_ m0 ⟨σ,H,I,w0⟩);rintro n s1 ⟨σ1,H1,I1,w1⟩;refine aci hp (fQ (hc pins s1 σ1 H1 _ I1 (turn n σ1 H1 w1)) λb s2 ⟨H2,I2,q2⟩=>?_);cases b with
 |true=>
  obtain⟨N,hN,q2⟩:=q2;rw[hZ rfl];refine aci hp (fQ (hb pins s2 σ1 H2 _ I2 q2) λf s3 q3=>?_);cases f with
  |next=>
   obtain⟨σ3,H3,I3,n3⟩:=q3;obtain⟨m',hm,w3⟩:=hN σ3 H3 n3;exact⟨m',hm,σ3,H3,I3,w3⟩
  |cont=>
   obtain⟨σ3,H3,I3,n3⟩:=q3;obtain⟨m',hm,w3⟩:=hN σ3 H3 n3;exact⟨m',hm,σ3,H3,I3,w3⟩
  |brk=>exact q3
  |ret v=>exact q3
 |false=>
  rw[hV ZM];exact aeo ⟨σ1,H2,I2,q2⟩
end
structure It where
 go:Nat->Hp->Prop
 yld:Nat->Hp->V->Hp->Prop
 stop:Nat->Hp->Prop
def rq (X:Cx)(pins:List (Z_×Obj))(H:Hp)(b:Z_):Prop:=
 H b=none/\b≠X.env.locals/\b∉X.fs/\(b∈X.ex\/X.s₀.heap.objs.size<=b)/\(∀x c,X.env.cells.lookup x=some c->c≠b)/\∀p∈X.pn++pins,p.1≠b
theorem aL.fpOk (I:aL X pins σ H s)(hb:s.heap.objs.size<=b)(hn:H' b=none):rq X pins H' b:=by
 refine⟨hn,ab9 (aak I.lt hb),I.nofs hb,.inr (aaP I.sz hb),λx c e z=>?_,λp hp z=>?_⟩
 ·obtain⟨v,q⟩:=I.cell x c e;exact absurd (aak q.lt (by rw[z];exact hb)) (aaQ _)
 ·exact absurd (aak (Z4 (I.pin p hp).1) (by rw[z];exact hb)) (aaQ _)
structure yV (P:acC)(w:acs)(K:ZN)(tg:abH)(J:It)(fp:List Z_)(it:Z_)(tn:Nat->acz->Prop):Prop where
 mem:it∈fp
 obj:∀i h,tn i h->∀b∈fp,∃o,h.get? b=some o/\∀v,o.data≠.cell v
 keep:∀i h h',tn i h->(∀b∈fp,∀o,h.get? b=some o->h'.get? b=some o)->tn i h'
 item:∀(X:Cx),X.prog=P->X.w=w->X.K=K->X.calm=true->∀(i:Nat) (pins:List (Z_×Obj)) (s:Z5) (σ:St) (H:Hp) (E:ZR->Z5->Prop),aL X pins σ H s->(∀b∈fp,rq X pins H b)->tn i s.heap->J.go i H->
  aac (aan P w) X.A (adm (.ref it)) (λr s1=>∃u,r=some u/\
   aac (aan P w) X.A (aep tg (.ref it) u) (λ_ s2=>∃x H',aL X pins σ H' s2/\aZ x u/\J.yld i H x H'/\tn (i+1) s2.heap/\∀b∈fp,H' b=none) E s1) E s
 done:∀(X:Cx),X.prog=P->X.w=w->X.K=K->X.calm=true->∀(i:Nat) (pins:List (Z_×Obj)) (s:Z5) (σ:St) (H:Hp) (E:ZR->Z5->Prop),aL X pins σ H s->(∀b∈fp,rq X pins H b)->tn i s.heap->J.stop i H->
  aac (aan P w) X.A (adm (.ref it)) (λr s1=>r=none/\aL X pins σ H s1) E s
 self:∀(A:aaC) (i:Nat) (s:Z5) (Q:ZR->Z5->Prop) (E:ZR->Z5->Prop),tn i s.heap->Q (.ref it) s->aac (aan P w) A (pyIter (.ref it)) Q E s
abbrev TI:=St->Hp->(It->Hp->Prop)->Prop
def Wq (X:Cx)(pins:List (Z_×Obj))(σ:St)(tg:abH)(R:It->Hp->Prop)(UM:ZR)(s2:Z5):Prop:=
 ∃(it:Z_) (fp:List Z_) (tn:Nat->acz->Prop) (J:It) (H':Hp),UM=.ref it/\aL X pins σ H' s2/\yV X.prog X.w X.K tg J fp it tn/\tn 0 s2.heap/\(∀b∈fp,rq X pins H' b)/\R J H'
def PI (X:Cx)(tg iter:abH)(wi:TI):Prop:=
 ∀(pins:List (Z_×Obj)) (s:Z5) (σ:St) (H:Hp) (R:It->Hp->Prop),aL X pins σ H s->wi σ H R->
  aac (aan X.prog X.w) X.A (acD iter X.env) (λv s1=>aac (aan X.prog X.w) X.A (pyIter v) (Wq X pins σ tg R) X.xe s1) X.xe s
theorem F_ {A:aaC}{u:ZR}{o:Obj}{n:String}{vs:Array ZR}{Q:Unit->Z5->Prop}(ho:s.heap.get? it=some o)(hc:o.cls=.type n)(hd:o.data=.fields vs)(hn:["enumerate","zip","dict_itemiterator","dict_reverseitemiterator","odict_iterator","itertools.zip_longest","itertools.pairwise"].contains n=false)(hQ:Q () s):aac M A (aep tg (.ref it) u) Q E s:=by
  unfold aep;cases tg<;>first
    |exact ZJ hQ
    | (cases u<;>first
        |exact ZJ hQ
        | (refine ZE (wpAny_load ho ?_)
           rw[hc,hd];show aac M A (if (["enumerate","zip","dict_itemiterator","dict_reverseitemiterator","odict_iterator","itertools.zip_longest","itertools.pairwise"].contains n&&vs[0]? == some (aeg _))=true then _ else _) Q E s;rw[hV (by intro h;rw[hn,Bool.false_and] at h;cases h)];exact ZJ hQ))
def Uk (K:ZN)(a:Z_):It:=
 ⟨λi H=>∃xs x,fu K H a xs/\xs[i]? = some x,λi H x H'=>H'=H/\∀xs,fu K H a xs->xs[i]? = some x,λi H=>∃xs,fu K H a xs/\xs.length<=i⟩
def U1 (K:ZN)(a:Z_):It:=
 ⟨λi H=>∃xs x,iC K H a xs/\xs[i]? = some x,λi H x H'=>H'=H/\∀xs,iC K H a xs->xs[i]? = some x,λi H=>∃xs,iC K H a xs/\xs.length<=i⟩
def Ul (lo:Int)(n:Nat):It:=⟨λi _=>i<n,λi H x H'=>H'=H/\x=.int (lo+i),λi _=>n<=i⟩
theorem EE (a it:Z_):yV P w K tg (Uk K a) [it] it (λi h=>h.IsListIter it a i) where
 mem:=by simp
 obj:=λi h st b hb=>by
  have e:b=it:=by simpa using hb
  subst e;obtain⟨o,e,c,d⟩:=st;exact⟨o,e,λv z=>by rw[d] at z;cases z⟩
 keep:=λi h h' st k=>st.at λo e=>k it (by simp) o e
 item:=by
  intro X hP hw hK hc i pins s σ H E I hf st hg;subst hP hw hK;obtain⟨xs,x,hq,hx⟩:=hg;obtain⟨aD,rv,p,hz⟩:=I.list hq;obtain⟨u,hu,ru⟩:=rv.get hx;obtain⟨f0,f1,f2,f3,f4,f5⟩:=hf it (by simp);refine wpAny_pyNext_list_item st p.isList (x:=u) (by simpa using hu) λh' bL sb=>?_;have I1:aL X pins σ H {s with heap:=h'}:=I.turned (t':=s.toks) (λb o hb e=>(sb.2 b hb).trans e) f0 f1 f3 f4 f5;obtain⟨o,e,c,d⟩:=id bL;exact⟨u,rfl,F_ (s:={s with heap:=h'}) e c d (by decide) ⟨x,H,I1,ru,⟨rfl,λys hy=>by rw[I.list_inj hy hq];exact hx⟩,bL,λb hb=>(hf b hb).1⟩⟩
 done:=by
  intro X hP hw hK hc i pins s σ H E I hf st hg;subst hP hw hK;obtain⟨xs,hq,hx⟩:=hg;obtain⟨aD,rv,p,hz⟩:=I.list hq;obtain⟨f0,f1,f2,f3,f4,f5⟩:=hf it (by simp);have hl:=rv.length;exact wpAny_pyNext_list_end (I.ok.hd hc) st p.isList (by simp;lia) λh' eb=>⟨rfl,I.turned (t':=s.toks) (λb o hb e=>eb b o hb e) f0 f1 f3 f4 f5⟩
 self:=λ_ _ _ _ _ st h=>wpAny_pyIter_listiter st h
theorem Bb (a it:Z_):yV P w K tg (U1 K a) [it] it (λi h=>h.IsTupleIter it a i) where
 mem:=by simp
 obj:=λi h st b hb=>by
  have e:b=it:=by simpa using hb
  subst e;obtain⟨o,e,c,d⟩:=st;exact⟨o,e,λv z=>by rw[d] at z;cases z⟩
 keep:=λi h h' st k=>st.at λo e=>k it (by simp) o e
 item:=by
  intro X hP hw hK hc i pins s σ H E I hf st hg;subst hP hw hK;obtain⟨xs,x,hq,hx⟩:=hg;obtain⟨aD,rv,p,hz⟩:=I.tuple hq;obtain⟨u,hu,ru⟩:=rv.get hx;obtain⟨f0,f1,f2,f3,f4,f5⟩:=hf it (by simp);refine wpAny_pyNext_tuple_item st (show s.heap.IsTuple a aD.toArray from p) (x:=u) (by simpa using hu) λh' bL sb=>?_;have I1:aL X pins σ H {s with heap:=h'}:=I.turned (t':=s.toks) (λb o hb e=>(sb.2 b hb).trans e) f0 f1 f3 f4 f5;obtain⟨o,e,c,d⟩:=id bL;exact⟨u,rfl,F_ (s:={s with heap:=h'}) e c d (by decide) ⟨x,H,I1,ru,⟨rfl,λys hy=>by rw[I.tuple_inj hy hq];exact hx⟩,bL,λb hb=>(hf b hb).1⟩⟩
 done:=by
  intro X hP hw hK hc i pins s σ H E I hf st hg;subst hP hw hK;obtain⟨xs,hq,hx⟩:=hg;obtain⟨aD,rv,p,hz⟩:=I.tuple hq;obtain⟨f0,f1,f2,f3,f4,f5⟩:=hf it (by simp);have hl:=rv.length;exact wpAny_pyNext_tuple_end (I.ok.hd hc) st (show s.heap.IsTuple a aD.toArray from p) (by simp;lia) λh' eb=>⟨rfl,I.turned (t':=s.toks) (λb o hb e=>eb b o hb e) f0 f1 f3 f4 f5⟩
 self:=λ_ _ _ _ _ st h=>wpAny_pyIter_tupleiter st h
theorem Bc (it:Z_)(lo:Int)(n:Nat):yV P w K tg (Ul lo n) [it] it (λi h=>IsRangeIter h it (lo+(i:Nat)*1) ((n:Int)-(i:Nat)) 1) where
 mem:=by simp
 obj:=λi h st b hb=>by
  have e:b=it:=by simpa using hb
  subst e;exact⟨_,st,λv z=>by
   have z':Data.fields _=Data.cell v:=z;cases z'⟩
 keep:=λi h h' st k=>k it (by simp) _ st
 item:=by
  intro X hP hw hK hc i pins s σ H E I hf st hg;subst hP hw hK;obtain⟨f0,f1,f2,f3,f4,f5⟩:=hf it (by simp);have W:=Walks.range (prog:=X.prog) (w:=X.w) (I.ok.hd hc) it lo 1 n;refine W.item i s _ _ hg st λv h' tk hv bL kk=>?_;obtain⟨t,rfl⟩:=hv;have I1:aL X pins σ H {s with heap:=h',toks:=tk}:=I.turned (λb o hb e=>kk b o (by simpa using hb) e) f0 f1 f3 f4 f5;refine⟨_,rfl,F_ (s:={s with heap:=h',toks:=tk}) (n:="range_iterator") bL rfl rfl (by decide) ⟨.int (lo+i),H,I1,⟨t,?_⟩,⟨rfl,rfl⟩,bL,λb hb=>(hf b hb).1⟩⟩;rw[Int.mul_one]
 done:=by
  intro X hP hw hK hc i pins s σ H E I hf st hg;subst hP hw hK;obtain⟨f0,f1,f2,f3,f4,f5⟩:=hf it (by simp);exact wpAny_pyNext_range_end (I.ok.hd hc) st (by have:n<=i:=hg;lia) λh' eb=>⟨rfl,I.turned (t':=s.toks) (λb o hb e=>eb b o hb e) f0 f1 f3 f4 f5⟩
 self:=λ_ _ _ _ _ st h=>wpAny_pyIter_rangeiter st h
end L2
variable {wi:L2.TI}
namespace L2
def Rh (K:ZN)(tl:TE):TI:=λσ H R=>tl σ H λx H1=>∃a,x=.ref a/\(∃xs,fu K H1 a xs)/\R (Uk K a) H1
def U2 (K:ZN)(tl:TE):TI:=λσ H R=>tl σ H λx H1=>∃a,x=.ref a/\(∃xs,iC K H1 a xs)/\R (U1 K a) H1
theorem Kh {l:abH}{tl:TE}(hl:PE X l tl):PI X tg l (Rh X.K tl):=by
 intro pins s σ H R I h;refine fQ (hl pins s σ H _ I h) λv s1 ⟨x,H1,I1,r1,q1⟩=>?_;obtain⟨a,e,⟨xs,hq⟩,q⟩:=q1;subst e;cases r1;obtain⟨aD,rv,p,hz⟩:=I1.list hq;refine aeX p.isList ?_;refine⟨s1.heap.objs.size,[s1.heap.objs.size],_,_,H1,rfl,I1.kept (t':=s1.toks) λb o e=>ZP _ e,EE a _,⟨_,ZW _ rfl,rfl,rfl⟩,λb hb=>?_,q⟩;have e:b=s1.heap.objs.size:=by simpa using hb
 subst e;exact I1.fpOk (ZS _) (I1.hok.fresh (ZS _))
theorem Oy {l:abH}{tl:TE}(hl:PE X l tl):PI X tg l (U2 X.K tl):=by
 intro pins s σ H R I h;refine fQ (hl pins s σ H _ I h) λv s1 ⟨x,H1,I1,r1,q1⟩=>?_;obtain⟨a,e,⟨xs,hq⟩,q⟩:=q1;subst e;cases r1;obtain⟨aD,rv,p,hz⟩:=I1.tuple hq;refine ads (show s1.heap.IsTuple a aD.toArray from p) ?_;refine⟨s1.heap.objs.size,[s1.heap.objs.size],_,_,H1,rfl,I1.kept (t':=s1.toks) λb o e=>ZP _ e,Bb a _,⟨_,ZW _ rfl,rfl,rfl⟩,λb hb=>?_,q⟩;have e:b=s1.heap.objs.size:=by simpa using hb
 subst e;exact I1.fpOk (ZS _) (I1.hok.fresh (ZS _))
theorem Ga {R:It->Hp->Prop}{lo hi:Int}{t u v:Tok}{tk:Nat}(I:aL X pins σ H s)(h1 : -(2 ^ 62)<=lo)(h2:lo<2 ^ 62)(h3 : -(2 ^ 62)<=hi)(h4:hi<2 ^ 62)(q:R (Ul lo (hi-lo).toNat) H):aac (aan X.prog X.w) X.A (pyIter (.ref s.heap.objs.size)) (Wq X pins σ tg R) E {s with heap:=s.heap.push {cls:=.type "range",data:=.fields #[.int lo t,.int hi u,.int 1 v]},toks:=tk}:=by
 refine wpAny_pyIter_range (IsRange.new ..) (small_one h1 h2 h3 h4) ?_;have I1:aL X pins σ H {s with heap:=s.heap.push {cls:=.type "range",data:=.fields #[.int lo t,.int hi u,.int 1 v]},toks:=tk}:=I.kept λb o e=>ZP _ e;refine⟨(s.heap.push {cls:=.type "range",data:=.fields #[.int lo t,.int hi u,.int 1 v]}).objs.size,[(s.heap.push {cls:=.type "range",data:=.fields #[.int lo t,.int hi u,.int 1 v]}).objs.size],_,_,H,rfl,
  I1.kept (t':=tk) λb o e=>ZP _ e,Bc _ lo (hi-lo).toNat,?_,λb hb=>?_,q⟩
 ·have e1:lo+((0:Nat):Int)*1=lo:=by simp
  have e2:(((hi-lo).toNat:Nat):Int)-((0:Nat):Int)=adt lo hi 1:=by rw[rangeSize_one];split<;>lia
  show IsRangeIter _ _ (lo+((0:Nat):Int)*1) ((((hi-lo).toNat:Nat):Int)-((0:Nat):Int)) 1;rw[e1,e2];exact ZW _ rfl
 ·have e:b=(s.heap.push {cls:=.type "range",data:=.fields #[.int lo t,.int hi u,.int 1 v]}).objs.size:=by simpa using hb
  subst e;exact I1.fpOk (ZS _) (I1.hok.fresh (ZS _))
def Ri (ta:TA):TI:=λσ H R=>ta σ H λvs H1=>∃j:Int,vs=[.int j]/\ -(2 ^ 62)<=j/\j<2 ^ 62/\R (Ul 0 j.toNat) H1
theorem EF {a:abH}{ta:TA}{p pos:Pos}(hg:Gl X "range")(hm:X.mg "range"=none)(ha:PA X [a] ta)(hs:Z8 [a] X.env=[(false,acD a X.env)]:=by rfl):PI X tg (.Call (.Name "range" p) [a] [] pos) (Ri ta):=by
 intro pins s σ H R I h;refine Call_ (sT I hg hm boot_range (abY (fQ (ha pos pins s σ H _ I h) λus s1 ⟨vs,H1,I1,r1,q1⟩=>?_) hs rfl));obtain⟨j,e,q1,q2,q⟩:=q1;subst e;cases r1 with
 |cons r rr=>
  cases rr;obtain⟨t,rfl⟩:=r;exact call_range_1 (Ga I1 (by lia) (by lia) q1 q2 (by simpa using q))
def U3 (wi:TI)(g:TG)(tb:TS):TS:=λD σ H=>wi σ H λJ H1=>∃W:Nat->Nat->St->Hp->Prop,(∃m,W 0 m σ H1)/\∀i m σ H,W i m σ H->
 (J.stop i H/\D.nx σ H)\/(J.go i H/\∃N:St->Hp->Prop,(∀σ' H',N σ' H'->∃m',m'<m/\W (i+1) m' σ' H')/\∀x H',J.yld i H x H'->g x σ H' λσ2 H2=>tb {D with nx:=N,ct:=N,bk:=D.nx} σ2 H2)
def sV (fp:List Z_)(h:acz):List (Z_×Obj):=fp.filterMap λb=>(h.get? b).map λo=>(b,o)
theorem kD {o:Obj}(hb:b∈fp)(e:h.get? b=some o):(b,o)∈sV fp h:=aeD.mpr ⟨b,hb,by rw[e];rfl⟩
theorem EG {p:Z_×Obj}(hp:p∈sV fp h):p.1∈fp/\h.get? p.1=some p.2:=by
 obtain⟨b,hb,e⟩:=aeD.mp hp;cases q:h.get? b with
 |none=>rw[q] at e;cases e
 |some o=>
  rw[q] at e;have e':(b,o)=p:=aab e;subst e';exact⟨hb,q⟩
theorem aL.pinned (I:aL X pins σ H s)(hf:∀b∈fp,rq X pins H b)(ho:∀b∈fp,∃o,s.heap.get? b=some o/\∀v,o.data≠.cell v):aL X (pins++sV fp s.heap) σ H s:=
 I.pins_of λp hp=>(aam.mp hp).elim (λz=>I.pin p (Z9 _ z)) λz=>by
  obtain⟨hb,e⟩:=EG z;obtain⟨f0,f1,f2,_⟩:=hf p.1 hb;obtain⟨o,e',d⟩:=ho p.1 hb;rw[e] at e';cases e';exact⟨e,f0,f1,f2,d⟩
theorem aL.unpinned {pl:List (Z_×Obj)}(I:aL X (pins++pl) σ H s):aL X pins σ H s:=I.pins_of λp hp=>I.pin p (Z9 _ (aaE _ hp))
theorem Oz {g:TG}{tb:TS}{pos:Pos}(hp:ae8 (aan X.prog X.w) X.A X.env X.xe)(hc:X.calm=true)(hi:PI X tg iter wi)(hg:PG X tg g)(hb:vt X body tb)(hs:∀x,abn iter X.env x=pure x:=by intro _;rfl):PS X (.For tg iter body [] pos) (U3 wi g tb):=by
 intro pins s σ H D I h;refine wpAny_For (fQ (hi pins s σ H _ I h) λv s1 h1=>fQ h1 λUM s2 h2=>?_) hs;obtain⟨it,fp,tn,J,H2,e,I2,T,nv,f2,W,⟨m0,w0⟩,turn⟩:=h2;subst e;have QD:∀{H':Hp},(∀b∈fp,H' b=none)->∀b∈fp,rq X pins H' b:=λhn b hb=>⟨hn b hb,(f2 b hb).2⟩;refine codeAny_forLoop_any (λn s'=>∃i σ' H',aL X pins σ' H' s'/\tn i s'.heap/\(∀b∈fp,H' b=none)/\W i n σ' H') ?_ m0 ⟨0,σ,H2,I2,nv,λb hb=>(f2 b hb).1,w0⟩;rintro n s3 ⟨i,σ3,H3,I3,QN,fr3,w3⟩;rcases turn i n σ3 H3 w3 with⟨stop,qn⟩|⟨go,N,hN,step⟩
 ·refine aci hp (fQ (T.done X rfl rfl rfl hc i pins s3 σ3 H3 X.xe I3 (QD fr3) QN stop) λr s4 ⟨hr,I4⟩=>?_);subst hr;exact aeo ⟨σ3,H3,I4,qn⟩
 ·refine aci hp (fQ (T.item X rfl rfl rfl hc i pins s3 σ3 H3 X.xe I3 (QD fr3) QN go) λr s4 ⟨u,hr,h4⟩=>?_);subst hr;refine aci hp (fQ h4 λ_ s5 ⟨x,H5,I5,r5,y5,st5,fr5⟩=>?_);have VN:=I5.pinned (QD fr5) (T.obj _ _ st5);refine aci hp (fQ (hg _ s5 σ3 H5 x u _ VN r5 (step x H5 y5)) λ_ s6 ⟨σ6,H6,I6,q6⟩=>?_);refine aci hp (fQ (hb _ s6 σ6 H6 _ I6 q6) λf s7 q7=>?_);have again:∀{σ7:St} {H7:Hp},aL X (pins++sV fp s5.heap) σ7 H7 s7->N σ7 H7->∃m,m<n/\∃i σ' H',aL X pins σ' H' s7/\tn i s7.heap/\(∀b∈fp,H' b=none)/\W i m σ' H':=λ{σ7 H7} I7 n7=>by
   obtain⟨m',hm,w7⟩:=hN σ7 H7 n7;refine⟨m',hm,i+1,σ7,H7,I7.unpinned,T.keep _ _ _ st5 λb hb o e=>(I7.pin (b,o) (Z9 _ (Z9 _ (kD hb e)))).1,λb hb=>?_,w7⟩;obtain⟨o,e,d⟩:=T.obj _ _ st5 b hb;exact (I7.pin (b,o) (Z9 _ (Z9 _ (kD hb e)))).2.1
  cases f with
  |next=>obtain⟨σ7,H7,I7,n7⟩:=q7;exact again I7 n7
  |cont=>obtain⟨σ7,H7,I7,n7⟩:=q7;exact again I7 n7
  |brk=>obtain⟨σ7,H7,I7,q7⟩:=q7;exact⟨σ7,H7,I7.unpinned,q7⟩
  |ret v=>obtain⟨x7,σ7,H7,I7,r7,q7⟩:=q7;exact⟨x7,σ7,H7,I7.unpinned,r7,q7⟩
end L2
namespace L2
abbrev R2:=V->V->Hp->VK->Prop
def lC (X:Cx)(f:ZR->ZR->Sem ZR)(r:R2):Prop:=
 ∀(pins:List (Z_×Obj)) (s:Z5) (σ:St) (H:Hp) (x y:V) (v u:ZR) (Q:VK),aL X pins σ H s->aZ x v->aZ y u->r x y H Q->
  aac (aan X.prog X.w) X.A (f v u) (EP X pins σ Q) X.xe s
def Um (X:Cx)(f:ZR->Sem ZR)(r:V->Hp->VK->Prop):Prop:=
 ∀(pins:List (Z_×Obj)) (s:Z5) (σ:St) (H:Hp) (x:V) (v:ZR) (Q:VK),aL X pins σ H s->aZ x v->r x H Q->
  aac (aan X.prog X.w) X.A (f v) (EP X pins σ Q) X.xe s
def fB (X:Cx)(f:ZR)(r:List V->Hp->VK->Prop):Prop:=
 ∀(pins:List (Z_×Obj)) (s:Z5) (σ:St) (H:Hp) (xs:List V) (us:List ZR) (Q:VK),aL X pins σ H s->bg xs us->r xs H Q->
  aac (aan X.prog X.w) X.A (call f us) (EP X pins σ Q) X.xe s
def Rj (r:R2)(ta tb:TE):TE:=λσ H Q=>ta σ H λx H1=>tb σ H1 λy H2=>r x y H2 Q
def Wr (r:V->Hp->VK->Prop)(ta:TE):TE:=λσ H Q=>ta σ H λx H1=>r x H1 Q
def rI (C:Int->Int->Prop)(g:Int->Int->V):R2:=λx y H Q=>∃i j,x=.int i/\y=.int j/\C i j/\Q (g i j) H
def EH (g:Int->Int->V):R2:=λx y H Q=>∃i j,x=.int i/\y=.int j/\Q (g i j) H
def rU (g:Int->V):V->Hp->VK->Prop:=λx H Q=>∃i,x=.int i/\Q (g i) H
section
variable {a b:abH}{ta tb tc:TE}{pos:Pos}
theorem OA (ha:PE X a ta)(hb:PE X b tb){R:V->V->Hp->Prop}(I:aL X pins σ H s)(h:ta σ H λx H1=>tb σ H1 λy H2=>R x y H2){f:ZR->ZR->Sem ZR}(hf:∀v u s2 x y H2,aL X pins σ H2 s2->aZ x v->aZ y u->R x y H2->aac (aan X.prog X.w) X.A (f v u) Q X.xe s2) :
  aac (aan X.prog X.w) X.A (acD a X.env) (λv s₁=>aac (aan X.prog X.w) X.A (acD b X.env) (λu s₂=>aac (aan X.prog X.w) X.A (f v u) Q X.xe s₂) X.xe s₁) X.xe s:=by
 refine fQ (ha pins s σ H _ I h) λv s1 ⟨x,H1,I1,r1,q1⟩=>?_;refine fQ (hb pins s1 σ H1 _ I1 q1) λu s2 ⟨y,H2,I2,r2,q2⟩=>?_;exact hf v u s2 x y H2 I2 r1 r2 q2
theorem Rk {op:Operator}{r:R2}(ho:lC X (acS op) r)(ha:PE X a ta)(hb:PE X b tb):PE X (.BinOp a op b pos) (Rj r ta tb):=by
 intro pins s σ H Q I h;exact wpAny_BinOp (OA ha hb I h λv u s2 x y H2 I2 rx ry q=>ho pins s2 σ H2 x y v u Q I2 rx ry q)
theorem Rm {op:UnaryOp}{r:V->Hp->VK->Prop}(ho:Um X (unaryOp op) r)(ha:PE X a ta):PE X (.UnaryOp op a pos) (Wr r ta):=by
 intro pins s σ H Q I h;exact UnaryOp_ (fQ (ha pins s σ H _ I h) λv s1 ⟨x,H1,I1,r1,q1⟩=>ho pins s1 σ H1 x v Q I1 r1 q1)
theorem Uo {f:ZR->ZR->Sem ZR}{C:Int->Int->Prop}{g:Int->Int->Int}
  (rule:∀(i j:Int) (t u:Tok) (s:Z5) (Q:ZR->Z5->Prop) (E:ZR->Z5->Prop),C i j->Q (.int (g i j) s.toks) {s with toks:=s.toks+1}->aac (aan X.prog X.w) X.A (f (.int i t) (.int j u)) Q E s) :
  lC X f (rI C λi j=>.int (g i j)):=by
 intro pins s σ H x y v u Q I rx ry h;obtain⟨i,j,rfl,rfl,hc,q⟩:=h;obtain⟨t,rfl⟩:=rx;obtain⟨t',rfl⟩:=ry;exact rule i j t t' s _ _ hc ⟨.int (g i j),H,I.tok _,⟨_,rfl⟩,q⟩
theorem Rn {f:ZR->ZR->Sem ZR}{g:Int->Int->Int}
  (rule:∀(i j:Int) (t u:Tok) (s:Z5) (Q:ZR->Z5->Prop) (E:ZR->Z5->Prop),Q (.int (g i j) s.toks) {s with toks:=s.toks+1}->aac (aan X.prog X.w) X.A (f (.int i t) (.int j u)) Q E s) :
  lC X f (EH λi j=>.int (g i j)):=by
 intro pins s σ H x y v u Q I rx ry h;obtain⟨i,j,rfl,rfl,q⟩:=h;obtain⟨t,rfl⟩:=rx;obtain⟨t',rfl⟩:=ry;exact rule i j t t' s _ _ ⟨.int (g i j),H,I.tok _,⟨_,rfl⟩,q⟩
theorem OB {f:ZR->ZR->Sem ZR}{g:Int->Int->Bool}
  (rule:∀(i j:Int) (t u:Tok) (s:Z5) (Q:ZR->Z5->Prop) (E:ZR->Z5->Prop),Q (.bool (g i j)) s->aac (aan X.prog X.w) X.A (f (.int i t) (.int j u)) Q E s) :
  lC X f (EH λi j=>.bl (g i j)):=by
 intro pins s σ H x y v u Q I rx ry h;obtain⟨i,j,rfl,rfl,q⟩:=h;obtain⟨t,rfl⟩:=rx;obtain⟨t',rfl⟩:=ry;exact rule i j t t' s _ _ ⟨.bl (g i j),H,I,rfl,q⟩
def Ro (i j:Int):Prop:=0<=j/\j<=1000000/\i.natAbs<2 ^ 64
def Ki (i j:Int):Prop:=(-(2 ^ 64)<i/\i<2 ^ 64)\/(-(2 ^ 64)<j/\j<2 ^ 64)
theorem Ki.ok {i j:Int}(h:Ki i j):IntMulOk i j:=by
 rcases h with⟨h1,h2⟩|⟨h1,h2⟩
 ·exact .of_left (intBits_le_64 h1 h2)
 ·exact .of_right (intBits_le_64 h1 h2)
theorem OC:lC X (acS .Add) (EH λi j=>.int (i+j)):=Rn λ_ _ _ _ _ _ _ q=>add_int q
theorem pL:lC X (acS .Sub) (EH λi j=>.int (i-j)):=Rn λ_ _ _ _ _ _ _ q=>sub_int q
theorem f7:lC X (acS .Mult) (rI Ki λi j=>.int (i*j)):=Uo λ_ _ _ _ _ _ _ hc q=>mul_int q hc.ok
theorem nB:lC X (acS .Mod) (rI (λ_ j=>0<j) λi j=>.int (i % j)):=Uo λi j _ _ _ _ _ hc q=>by
 have h1:(0:Int)<j:=hc;exact mod_int' (by lia) (by rw[Int.fmod_eq_emod_of_nonneg i (by lia)];exact q)
theorem Gb:lC X (acS .Pow) (rI Ro λi j=>.int (i ^ j.toNat)):=Uo λ_ _ _ _ _ _ _ hc q=>pow_int_small hc.1 hc.2.1 hc.2.2 q
theorem XH {f:ZR->Sem ZR}{g:Int->Int}
  (rule:∀(i:Int) (t:Tok) (s:Z5) (Q:ZR->Z5->Prop) (E:ZR->Z5->Prop),Q (.int (g i) s.toks) {s with toks:=s.toks+1}->aac (aan X.prog X.w) X.A (f (.int i t)) Q E s) :
  Um X f (rU λi=>.int (g i)):=by
 intro pins s σ H x v Q I rx h;obtain⟨i,rfl,q⟩:=h;obtain⟨t,rfl⟩:=rx;exact rule i t s _ _ ⟨.int (g i),H,I.tok _,⟨_,rfl⟩,q⟩
theorem OD:Um X (unaryOp .USub) (rU λi=>.int (-i)):=XH λ_ _ _ _ _ q=>neg_int q
end
def Rq:V->V->Bool
 | .non,.non=>true|.non,.int _=>true|.int _,.non=>true|.non,.bl _=>true|.bl _,.non=>true|.non,.str _=>true|.str _,.non=>true
 | .int _,.int _=>true|.bl _,.bl _=>true|.str _,.str _=>true|.byt _,.byt _=>true
 | .int _,.str _=>true|.str _,.int _=>true|.bl _,.str _=>true|.str _,.bl _=>true
 |_,_=>false
def Ws:R2:=λx y H Q=>Rq x y=true/\Q (.bl (decide (x=y))) H
def Wt:R2:=λx y H Q=>Rq x y=true/\Q (.bl (!decide (x=y))) H
theorem sr {i j:Int}:decide (V.int i=V.int j)=(i==j):=by
 rw[aaw];simp
theorem xk {i j:Bool}:decide (V.bl i=V.bl j)=(i==j):=by
 rw[aaw];simp
theorem su {i j:Str}:decide (V.str i=V.str j)=(i==j):=by
 rw[aaw];simp
theorem CK {i j:Array UInt8}:decide (V.byt i=V.byt j)=(i.toList==j.toList):=by
 rw[aaw];cases i;cases j;simp
section
variable {a b:abH}{ta tb tc:TE}{pos:Pos}
theorem bw {Q:VK}{k k':Bool}(I:aL X pins σ H s)(q:Q (.bl k) H)(e:k=k'):EP X pins σ Q (.bool k') s:=by
 subst e;exact⟨.bl k,H,I,rfl,q⟩
theorem n_:lC X (abK .Eq) Ws:=by
 intro pins s σ H x y v u Q I rx ry h;obtain⟨hs,q⟩:=h;cases x with
 |non=>
  cases rx;cases y with
  |non=>cases ry;exact PySem.EqNone.eq_none_none (bw I q (by simp))
  |bl j=>cases ry;exact PySem.EqNone.eq_none_bool (bw I q (by simp))
  |int j=>obtain⟨t',rfl⟩:=ry;exact PySem.EqNone.eq_none_int (bw I q (by simp))
  |str j=>obtain⟨t',rfl⟩:=ry;exact PySem.EqNone.eq_none_str (bw I q (by simp))
  |_=>exact absurd (show false=true from hs) ZM
 |bl i=>
  cases rx;cases y with
  |non=>cases ry;exact PySem.EqNone.eq_bool_none (bw I q (by simp))
  |bl j=>cases ry;exact eq_bool (bw I q xk)
  |str j=>obtain⟨t',rfl⟩:=ry;exact PySem.EqMixed.eq_bool_str (bw I q (by simp))
  |_=>exact absurd (show false=true from hs) ZM
 |int i=>
  obtain⟨t,rfl⟩:=rx;cases y with
  |non=>cases ry;exact PySem.EqNone.eq_int_none (bw I q (by simp))
  |int j=>obtain⟨t',rfl⟩:=ry;exact eq_int (bw I q sr)
  |str j=>obtain⟨t',rfl⟩:=ry;exact PySem.EqMixed.eq_int_str (bw I q (by simp))
  |_=>exact absurd (show false=true from hs) ZM
 |str i=>
  obtain⟨t,rfl⟩:=rx;cases y with
  |non=>cases ry;exact PySem.EqNone.eq_str_none (bw I q (by simp))
  |bl j=>cases ry;exact PySem.EqMixed.eq_str_bool (bw I q (by simp))
  |int j=>obtain⟨t',rfl⟩:=ry;exact PySem.EqMixed.eq_str_int (bw I q (by simp))
  |str j=>obtain⟨t',rfl⟩:=ry;exact eq_str (bw I q su)
  |_=>exact absurd (show false=true from hs) ZM
 |byt i=>
  obtain⟨t,rfl⟩:=rx;cases y with
  |byt j=>obtain⟨t',rfl⟩:=ry;exact PySem.W.eq_bytes (bw I q CK)
  |_=>exact absurd (show false=true from hs) ZM
 |_=>cases y<;>exact absurd (show false=true from hs) ZM
theorem Gd:lC X (abK .NotEq) Wt:=by
 intro pins s σ H x y v u Q I rx ry h;obtain⟨hs,q⟩:=h;cases x with
 |non=>
  cases rx;cases y with
  |non=>cases ry;exact PySem.EqNone.ne_none_none (bw I q (by simp))
  |bl j=>cases ry;exact PySem.EqNone.ne_none_bool (bw I q (by simp))
  |int j=>obtain⟨t',rfl⟩:=ry;exact PySem.EqNone.ne_none_int (bw I q (by simp))
  |str j=>obtain⟨t',rfl⟩:=ry;exact PySem.EqNone.ne_none_str (bw I q (by simp))
  |_=>exact absurd (show false=true from hs) ZM
 |bl i=>
  cases rx;cases y with
  |non=>cases ry;exact PySem.EqNone.ne_bool_none (bw I q (by simp))
  |bl j=>cases ry;exact ne_bool (bw I q (congrArg not xk))
  |str j=>obtain⟨t',rfl⟩:=ry;exact PySem.EqMixed.ne_bool_str (bw I q (by simp))
  |_=>exact absurd (show false=true from hs) ZM
 |int i=>
  obtain⟨t,rfl⟩:=rx;cases y with
  |non=>cases ry;exact PySem.EqNone.ne_int_none (bw I q (by simp))
  |int j=>obtain⟨t',rfl⟩:=ry;exact ne_int (bw I q (congrArg not sr))
  |str j=>obtain⟨t',rfl⟩:=ry;exact PySem.EqMixed.ne_int_str (bw I q (by simp))
  |_=>exact absurd (show false=true from hs) ZM
 |str i=>
  obtain⟨t,rfl⟩:=rx;cases y with
  |non=>cases ry;exact PySem.EqNone.ne_str_none (bw I q (by simp))
  |bl j=>cases ry;exact PySem.EqMixed.ne_str_bool (bw I q (by simp))
  |int j=>obtain⟨t',rfl⟩:=ry;exact PySem.EqMixed.ne_str_int (bw I q (by simp))
  |str j=>obtain⟨t',rfl⟩:=ry;exact ne_str (bw I q (congrArg not su))
  |_=>exact absurd (show false=true from hs) ZM
 |byt i=>
  obtain⟨t,rfl⟩:=rx;cases y with
  |byt j=>obtain⟨t',rfl⟩:=ry;exact PySem.W.ne_bytes (bw I q (congrArg not CK))
  |_=>exact absurd (show false=true from hs) ZM
 |_=>cases y<;>exact absurd (show false=true from hs) ZM
theorem MA:lC X (abK .Lt) (EH λi j=>.bl (decide (i<j))):=OB λ_ _ _ _ _ _ _ q=>lt_int q
theorem MB:lC X (abK .Gt) (EH λi j=>.bl (decide (j<i))):=OB λ_ _ _ _ _ _ _ q=>gt_int q
theorem Rr:lC X (abK .GtE) (EH λi j=>.bl (decide (j<=i))):=OB λ_ _ _ _ _ _ _ q=>ge_int q
theorem sW:lC X (abK .Is) (λx y H Q=>y=.non/\Q (.bl (decide (x=.non))) H):=by
 intro pins s σ H x y v u Q I rx ry h;obtain⟨rfl,q⟩:=h;cases ry;refine is_none_gen (bw I q ?_);cases x<;>first
  | (cases rx;rfl)
  | (obtain⟨t,rfl⟩:=rx;rfl)
theorem oe:lC X (abK .IsNot) (λx y H Q=>y=.non/\Q (.bl (!decide (x=.non))) H):=by
 intro pins s σ H x y v u Q I rx ry h;obtain⟨rfl,q⟩:=h;cases ry;refine isnot_none_gen (bw I q ?_);cases x<;>first
  | (cases rx;rfl)
  | (obtain⟨t,rfl⟩:=rx;rfl)
theorem lC.or {f:ZR->ZR->Sem ZR}{r r':R2}(h:lC X f r)(h':lC X f r'):lC X f (λx y H Q=>r x y H Q\/r' x y H Q):=by
 intro pins s σ H x y v u Q I rx ry q;rcases q with q|q
 ·exact h pins s σ H x y v u Q I rx ry q
 ·exact h' pins s σ H x y v u Q I rx ry q
theorem bK (b:abH)(h:op≠.In:=by decide)(h2:op≠.NotIn:=by decide):acT op b=false:=by
 have e1:(op==CmpOp.In)=false:=by cases op<;>first|rfl|exact absurd rfl h
 have e2:(op==CmpOp.NotIn)=false:=by cases op<;>first|rfl|exact absurd rfl h2
 cases b<;>simp[acT,e1,e2]
theorem Kj {r:R2}(ho:lC X (abK op) r)(ha:PE X a ta)(hb:PE X b tb)(hm:acT op b=false):PE X (.Compare a [op] [b] pos) (Rj r ta tb):=by
 intro pins s σ H Q I h;exact wpAny_Compare1 (OA ha hb I h λv u s2 x y H2 I2 rx ry q=>ho pins s2 σ H2 x y v u Q I2 rx ry q) hm
def Rt (t:TE):TT:=λσ H Q=>t σ H λx H'=>∃k,x=.bl k/\Q k H'
theorem CL {r:R2}(ho:lC X (abK op) r)(ha:PE X a ta)(hb:PE X b tb)(hm:acT op b=false):PT X (.Compare a [op] [b] pos) (Rt (Rj r ta tb)):=by
 intro pins s σ H Q I h;refine wpAny_isTrue_Compare1 (fQ (ha pins s σ H _ I h) λv s1 ⟨x,H1,I1,r1,q1⟩=>fQ (hb pins s1 σ H1 _ I1 q1) λu s2 ⟨y,H2,I2,r2,q2⟩=>
  fQ (ho pins s2 σ H2 x y v u _ I2 r1 r2 q2) λc s3 ⟨z,H3,I3,r3,k,e,q3⟩=>?_) hm
 subst e;cases r3;exact aeW ⟨H3,I3,q3⟩
theorem sX:(ZL:Nat)<2 ^ 63:=by rw[abv];decide
theorem jE {x:V}{us:List ZR}(r:bg [x] us):∃u,us=[u]/\aZ x u:=by
 cases r with
 |cons r1 r2=>cases r2;exact⟨_,rfl,r1⟩
theorem MC {x:V}{us:List ZR}(r:bg [x,y] us):∃u w',us=[u,w']/\aZ x u/\aZ y w':=by
 cases r with
 |cons r1 r2=>
  cases r2 with
  |cons r3 r4=>cases r4;exact⟨_,_,rfl,r1,r3⟩
theorem yW:fB X (.builtin "abs") (λxs H Q=>∃i,xs=[.int i]/\Q (.int (if i<0 then -i else i)) H):=by
 intro pins s σ H xs us Q I r h;obtain⟨i,rfl,q⟩:=h;obtain⟨u,rfl,t,rfl⟩:=jE r;exact call_abs_int λu tk=>⟨.int (if i<0 then -i else i),H,I.tok _,⟨_,rfl⟩,q⟩
theorem EI (hc:X.calm=true):fB X (.builtin "max") (λxs H Q=>∃i j,xs=[.int i,.int j]/\Q (.int (if j>i then j else i)) H):=by
 intro pins s σ H xs us Q I r h;obtain⟨i,j,rfl,q⟩:=h;obtain⟨u,w',rfl,⟨t,rfl⟩,⟨t',rfl⟩⟩:=MC r;refine max_two_ints (I.ok.hd hc) λh' tk k=>⟨_,H,I.kept k,?_,q⟩;by_cases hj:j>i
 ·rw[hZ hj,hZ hj];exact⟨_,rfl⟩
 ·rw[hV hj,hV hj];exact⟨_,rfl⟩
theorem EJ (hc:X.calm=true):fB X (.builtin "min") (λxs H Q=>∃i j,xs=[.int i,.int j]/\Q (.int (if j<i then j else i)) H):=by
 intro pins s σ H xs us Q I r h;obtain⟨i,j,rfl,q⟩:=h;obtain⟨u,w',rfl,⟨t,rfl⟩,⟨t',rfl⟩⟩:=MC r;refine min_two_ints (I.ok.hd hc) λh' tk k=>⟨_,H,I.kept k,?_,q⟩;by_cases hj:j<i
 ·rw[hZ hj,hZ hj];exact⟨_,rfl⟩
 ·rw[hV hj,hV hj];exact⟨_,rfl⟩
def Ru (K:ZN)(x:V)(H:Hp)(n:Nat):Prop:=
 match x with
 | .str y=>y.length<=ZL/\n=y.length
 | .byt y=>y.size<=ZL/\n=y.size
 | .ref p=>(∃xs,fu K H p xs/\n=xs.length)\/∃xs,iC K H p xs/\n=xs.length
 |_=>False
theorem dC:fB X (.builtin "len") (λxs H Q=>∃x n,xs=[x]/\Ru X.K x H n/\Q (.int n) H):=by
 intro pins s σ H xs us Q I r h;obtain⟨x,n,rfl,e,q⟩:=h;obtain⟨u,rfl,rx⟩:=jE r;have hl:=sX;have hs:ZL=16777216:=abv;cases x with
 |str y=>
  obtain⟨t,rfl⟩:=rx;obtain⟨hy,e'⟩:y.length<=ZL/\n=y.length:=e;subst e';exact len_str (by lia) ⟨.int _,H,I.tok _,⟨_,rfl⟩,q⟩
 |byt y=>
  obtain⟨t,rfl⟩:=rx;obtain⟨hy,e'⟩:y.size<=ZL/\n=y.size:=e;subst e';exact PySem.W.len_bytes (by lia) ⟨.int _,H,I.tok _,⟨_,rfl⟩,q⟩
 |ref p=>
  cases rx;have e':(∃xs,fu X.K H p xs/\n=xs.length)\/∃xs,iC X.K H p xs/\n=xs.length:=e;rcases e' with⟨xs,hx,e'⟩|⟨xs,hx,e'⟩
  ·subst e';obtain⟨aD,r',pl,hz⟩:=I.list hx;have nX:=r'.length;exact Calls.call_len_list pl.isList (by simp only[ZZ];lia) ⟨.int xs.length,H,I.tok _,⟨_,by simp only[ZZ];rw[nX]⟩,q⟩
  ·subst e';obtain⟨aD,r',pl,hz⟩:=I.tuple hx;have nX:=r'.length;exact len_tuple pl (by simp only[ZZ];lia) ⟨.int xs.length,H,I.tok _,⟨_,by simp only[ZZ];rw[nX]⟩,q⟩
 |_=>exact (show False from e).elim
end
end L2
variable {r:L2.R2}
namespace L2
structure XI (h:acz)(x dx C:Z_)(mA:Str->Option ZR):Prop where
 obj:h.get? x=some (PySem.W.instObj C dx)
 ns:h.Ns1 dx mA
 ne:dx≠x
theorem n9.some_of {o:Option ZR}(r:n9 (some v) o):∃u,o=some u/\aZ v u:=by
 cases o with
 |none=>exact (show False from r).elim
 |some u=>exact⟨u,rfl,r⟩
structure Wu (K:ZN)(C:Z_):Prop where
 pg:PySem.W.plainGet K C Str.empty=true
 hd:PySem.W.hasDictIn K C=true
 po:PySem.W.plainOver K C=true
 sa:ac4 K (.ref C) "__setattr__"=some (some (.builtin "object.__setattr__"))
def OE (K:ZN)(C:Z_)(f:Str):Prop:=ac4 K (.ref C) f=some none
structure Ze (K:ZN)(C:Z_)(f:Str)(v:V)(u:ZR):Prop where
 at_:ac4 K (.ref C) f=some (some u)
 rel:aZ v u
 get:PySem.W.specialIn K u "__get__"=some none
 cp:PySem.W.copiedNames.contains f=false
structure XJ (K:ZN)(C:Z_)(m:Str)(f:Z_):Prop where
 at_:ac4 K (.ref C) m=some (some (.ref f))
 fn:PySem.W.isFn K (.ref f)=true
 kp:acA K (.ref f)=true
section
variable {A:aaC}{c:ZR}{b:Bool}
inductive sY (K:ZN)(H:Hp):V->ZR->Prop where
 |non:sY K H .non (.type "NoneType")
 |bl (x:Bool):sY K H (.bl x) (.type "bool")
 |int (i:Int):sY K H (.int i) (.type "int")
 |str (x:Str):sY K H (.str x) (.type "str")
 |flt (x:UInt64):sY K H (.flt x) (.type "float")
 |lst {a:Z_} {xs:List V} (e:H a=some (.lst xs)):sY K H (.ref a) (.type "list")
 |frz {a:Z_} {o:Obj} {xs:List V} (e:H a=some (.frz o (.lst xs))):sY K H (.ref a) (.type "list")
 |tup {a:Z_} {xs:List V} (e:H a=some (.tup xs)):sY K H (.ref a) (.type "tuple")
 |dK {a:Z_} {bb:List (Key×V)} (e:H a=some (.dK bb)):sY K H (.ref a) (.type "dict")
 |dT {a:Z_} {bb:List (List Key×V)} (e:H a=some (.dT bb)):sY K H (.ref a) (.type "dict")
 |ins {a C dx:Z_} {fs:List (Str×V)} (e:H a=some (.ins C dx fs)) (cl:Wu K C) (ha:ac4 K (.ref C) "__class__"=some (some (.builtin "object.__class__")))
   (hn:PySem.W.specialIn K (.builtin "object.__class__") "__get__"=some (some (.builtin "getset_descriptor.__get__"))) (htk:PySem.W.takesIn K (.builtin "object.__class__")=some true)
   (hm:PySem.W.mroIn K C (.type "object")=some true):sY K H (.ref a) (.ref C)
end
end L2
namespace L2
structure f9 (k:Nat)(A:aaC):Prop where
 hd:A.handled=none
 dp:A.depth+3*k+5<recursionLimit
 un:A.units+16*k+200<abo
theorem f9.mono {A:aaC}(r:f9 k A)(h:j<=k):f9 j A:=⟨r.hd,by have:=r.dp;lia,by have:=r.un;lia⟩
theorem f9.deeper {A:aaC}(r:f9 (k+1) A)(env:Env):f9 k (A.deeper env):=
 ⟨r.hd,by have:=r.dp;show A.depth+1+3*k+5<_;lia,by have:=r.un;show A.units+3+16*k+200<_;lia⟩
theorem f9.depth {A:aaC}(r:f9 k A):A.depth<recursionLimit:=by have:=r.dp;lia
theorem f9.units {A:aaC}(r:f9 k A):A.units+64<abo:=by have:=r.un;lia
def U4:TA:=λ_ H Q=>Q [] H
def Rv (ta:TE)(tr:TA):TA:=λσ H Q=>ta σ H λx H1=>tr σ H1 λxs H2=>Q (x::xs) H2
section
variable {e:abH}{es:List abH}{t:TA}{pos:Pos}
theorem pM:PA X [] U4:=λ_ _ _ _ H Q I h=>Calls.spliced_nil ⟨[],H,I,.nil,h⟩
theorem mm (ha:PE X e te)(hr:PA X es t)(hs:Z8 (e::es) X.env=(false,acD e X.env)::Z8 es X.env:=by rfl):PA X (e::es) (Rv te t):=by
 intro pos pins s σ H Q I h;rw[hs];show aac _ _ (spliced ((false,acD e X.env)::abW pos (Z8 es X.env))) _ _ s;refine aeE (fQ (ha pins s σ H _ I h) λu s1 ⟨x,H1,I1,r1,q1⟩=>?_);exact fQ (hr pos pins s1 σ H1 _ I1 q1) λus s2 ⟨xs,H2,I2,r2,q2⟩=>⟨x::xs,H2,I2,.cons r1 r2,q2⟩
def U5 (t:TA):TE:=λσ H Q=>t σ H λxs H1=>xs.length<=ZL/\∀p,H1 p=none->Q (.ref p) (cH H1 p (.tup xs))
def U6 (t:TA):TE:=λσ H Q=>t σ H λxs H1=>xs.length<=ZL/\∀p,H1 p=none->Q (.ref p) (cH H1 p (.lst xs))
theorem OF {x1}(h:PA X es t):PE X (.Tuple es x1 pos) (U5 t):=by
 intro pins s σ H Q I hq;refine wpAny_Tuple_spliced (fQ (h pos pins s σ H _ I hq) λus s1 ⟨xs,H1,I1,r,z,q⟩=>⟨by rw[←r.length];exact z,?_⟩);have hf:H1 s1.heap.objs.size=none:=I1.hok.fresh (ZS _);refine⟨.ref s1.heap.objs.size,cH H1 s1.heap.objs.size (.tup xs),I1.laid (t':=s1.toks) (λb u e=>ZP _ e) (ZS _) ?_,rfl,q _ hf⟩;exact⟨z,us,r,⟨_,ZW _ rfl,rfl,_,rfl⟩,_,ZW _ rfl⟩
theorem Ge (h:PA X es t):PE X (.List es pos) (U6 t):=by
 intro pins s σ H Q I hq;refine wpAny_List_spliced (fQ (h pos pins s σ H _ I hq) λus s1 ⟨xs,H1,I1,r,z,q⟩=>⟨by rw[←r.length];exact z,?_⟩);have hf:H1 s1.heap.objs.size=none:=I1.hok.fresh (ZS _);refine⟨.ref s1.heap.objs.size,cH H1 s1.heap.objs.size (.lst xs),I1.laid (t':=s1.toks) (λb u e=>ZP _ e) (ZS _) ?_,rfl,q _ hf⟩;exact⟨z,us,0,r,ZW _ rfl⟩
end
abbrev Sp:=List V->Hp->VK->XK->Prop
abbrev CXT:=List Env->Hp->Z5->XK->ZR->Z5->Prop
structure Kk (P:acC)(w:acs)(K:ZN)(mg:Str->Option ZR)(base:acz)(A:aaC)(outer:List Env)(s:Z5)(H:Hp):Prop where
 frames:A.frames=some outer
 mod:Mod K mg base
 bs:∀b o,base.get? b=some o->s.heap.get? b=some o/\H b=none
 bsz:base.objs.size<=s.heap.objs.size
 funs:s.heap.FunFrames base outer
 frf:∀b∈CF outer,H b=none
 hok:lB P w H s.heap
 bare:AllBare s.gens
def CE (outer:List Env)(P:acC)(w:acs)(H:Hp)(s:Z5)(Q:VK)(u:ZR)(s':Z5):Prop:=
 ∃v H',s'.os=s.os/\AllBare s'.gens/\Un (CF outer) [] H H' s.heap s'.heap/\lB P w H' s'.heap/\aZ v u/\Q v H'
def CR (CX:CXT)(outer:List Env)(P:acC)(w:acs)(H:Hp)(s:Z5)(Q:VK)(E:XK)(r:Result)(s':Z5):Prop:=
 match r with
 | .ok (.ret u)=>CE outer P w H s Q u s'
 | .ok _=>False
 | .error e=>CX outer H s E e s'
structure mP (P:acC)(w:acs)(K:ZN)(mg:Str->Option ZR)(base:acz)(CX:CXT)(k:Nat)(f:Z_)(fd:aeh)(ps:List Str)(sp:Sp):Prop where
 len:∀vs H Q E,sp vs H Q E->vs.length=ps.length
 run:∀(A:aaC) (outer:List Env) (s:Z5) (H:Hp) (args:Args) (us:List ZR) (vs:List V) (Q:VK) (E:XK),f9 k A->Kk P w K mg base A outer s H->BindsTo s fd args (ps.zip us)->bg vs us->sp vs H Q E->
  codeAny (aan P w) A (.call (.ref f) args) (CR CX outer P w H s Q E) s
theorem mP.imp {base:acz}{CX:CXT}{sp W9:Sp}(F:mP P w K mg base CX k f fd ps sp)(h:∀vs H Q E,W9 vs H Q E->sp vs H Q E):mP P w K mg base CX k f fd ps W9:=
 ⟨λvs H Q E q=>F.len vs H Q E (h _ _ _ _ q),λA outer s H args us vs Q E hr he hb hv hs=>F.run A outer s H args us vs Q E hr he hb hv (h _ _ _ _ hs)⟩
section
variable {s':Z5}
theorem aL.env0 (I:aL X pins σ H s):Kk X.prog X.w X.K X.mg X.base X.A X.stack s H:=
 ⟨I.ok.frames,I.ok.mod,I.bs,aaP I.ok.bsz I.sz,I.stack,I.stkFree,I.hok,I.bare⟩
theorem aL.after {Q:VK}{u:ZR}(I:aL X pins σ H s)(h:CE X.stack X.prog X.w H s Q u s'):EP X pins σ Q u s':=by
 obtain⟨v,H',os,bare,un,hok,r,q⟩:=h;obtain⟨hh,g,d,t,os'⟩:=s';obtain rfl:os'=s.os:=os;exact⟨v,H',I.call (h':=hh) (g':=g) (d':=d) (t':=t) (ch:=[]) un hok bare (λb z=>absurd z (by simp)),r,q⟩
end
def MD (sp:Sp)(N6:List V)(E:XK)(t:TA):TE:=λσ H Q=>t σ H λvs H1=>sp (vs++N6) H1 Q E
def vX (K:ZN)(fd:aeh)(ps:List Str)(ds:List ZR):Prop:=
 ∀(s:Z5) (us:List ZR),K.In s.heap->(us++ds).length=ps.length->BindsTo s fd ⟨us,[]⟩ (ps.zip (us++ds))
theorem vX.all (h:∀us:List ZR,us.length=ps.length->bindArgs fd ⟨us,[]⟩=pure (ps.zip us)):vX K fd ps []:=λs us _ hl=>by
 rw[aaW] at hl ⊢;exact .of_eq (h us hl)
def Be (CX:CXT)(X:Cx)(E:XK):Prop:=∀(pins:List (Z_×Obj)) (σ:St) (H:Hp) (s:Z5) (e:ZR) (s':Z5),aL X pins σ H s->CX X.stack H s E e s'->X.xe e s'
section
variable {CX:CXT}{C:Z_}{sp:Sp}{N6:List V}{ds:List ZR}{E:XK}{m:Str}{p pos eQ:Pos}{e o:abH}{es:List abH}{ta:TE}{t:TA}
theorem OG {Q:VK}{us:List ZR}(F:mP X.prog X.w X.K X.mg X.base CX k f fd ps sp)(hr:f9 k X.A)(hb:vX X.K fd ps ds)(hd:bg N6 ds)(hx:Be CX X E)(I:aL X pins σ H s)(r:bg vs us)(h:sp (vs++N6) H Q E):aac (aan X.prog X.w) X.A (call (.ref f) us) (EP X pins σ Q) X.xe s:=by
 have r2:bg (vs++N6) (us++ds):=r.append hd;have hl:(us++ds).length=ps.length:=by rw[←r2.length];exact F.len _ _ _ _ h
 refine wpAny_call (ad4 (F.run X.A X.stack s H ⟨us,[]⟩ (us++ds) (vs++N6) Q E hr I.env0 (hb s us I.kIn hl) r2 h) λr s' hq=>?_);cases r with
 |error e=>exact hx pins σ H s e s' I hq
 |ok fl=>
  cases fl with
  |ret u=>exact I.after hq
  |next=>exact acR hq
  |brk=>exact acR hq
  |cont=>exact acR hq
theorem Kl (F:mP X.prog X.w X.K X.mg X.base CX k f fd ps sp)(hr:f9 k X.A)(hg:Gl X x)(hm:X.mg x=some (.ref f))(hk:acA X.K (.ref f)=true)(hb:vX X.K fd ps ds)(hd:bg N6 ds)(hx:Be CX X E)
  (ha:PA X (e::es) t) (Ct:(x==("__debug__":Str))=false:=by decide) (he:Z8 (e::es) X.env=(false,acD e X.env)::Z8 es X.env:=by rfl) (sS:(abW pos (Z8 es X.env)).any (·.1)=false:=by rfl) :
  PE X (.Call (.Name x p) (e::es) [] pos) (MD sp N6 E t):=by
 intro pins s σ H Q I h;refine aeF (Kc I hg hm ?_ Ct);refine PySem.W.callWith_K (h₀:=X.base) I.ok.mod.kin hk (fQ (ha pos pins s σ H _ I h) λus s1 ⟨vs,H1,I1,r,q⟩=>⟨I1.kIn,?_⟩) he sS;exact OG F hr hb hd hx I1 r q
structure Mk (K:ZN)(C f:Z_):Prop where
 makes:PySem.W.makesIn K C=true
 init:ac4 K (.ref C) "__init__"=some (some (.ref f))
 fn:PySem.W.isFn K (.ref f)=true
 kp:acA K (.ref C)=true
end
section
variable {CX:CXT}{C:Z_}{ks:List Str}{sp:Sp}{E:XK}{m:Str}{p pos eQ kpos:Pos}{e o:abH}{es:List abH}{kws:List adu}{ta:TE}{t tk:TA}{nm:Option Str}
structure U7 (K:ZN)(fd:aeh)(ps ks:List Str)(g:List ZR->List ZR->List ZR)(gV:List V->List V->List V):Prop where
 to:∀(s:Z5) (us ws:List ZR),K.In s.heap->(g us ws).length=ps.length->BindsTo s fd ⟨us,ks.zip ws⟩ (ps.zip (g us ws))
 rel:∀{vs:List V} {us:List ZR} {zs:List V} {ws:List ZR},bg vs us->bg zs ws->bg (gV vs zs) (g us ws)
variable {g:List ZR->List ZR->List ZR}{gV:List V->List V->List V}
end
structure aN (N P:List Str)(sc:aei):Prop where
 kind:sc.kind=.function
 co:sc.isCoroutine=false
 gen:sc.isGenerator=false
 nd:N.Nodup
 pre:N.take P.length=P
 par:∀x∈P,sc.names.lookup x=some .local\/sc.names.lookup x=some .cell
 nofree:∀y∈sc.names,y.2≠.free
theorem vY {acF:Str->Option adw}{x:Str}:∀{binds:List (Str×ZR)} {m:Str->Option ZR},(∀v,(x,v)∉binds)->bindL acF binds m x=m x
 | [],_,_=>rfl
 | (n,v)::r,m,h=>by
  unfold bindL;rw[vY λw hw=>h w (ZK _ hw)];split
  ·have:x≠n:=by rintro rfl;exact h v ZG
   simp[this]
  ·rfl
theorem vZ {acF:Str->Option adw}{x:Str}:∀{binds:List (Str×ZR)} {m:Str->Option ZR},(∀v,(x,v)∉binds)->bindC acF binds m x=m x
 | [],_,_=>rfl
 | (n,v)::r,m,h=>by
  unfold bindC;rw[vZ λw hw=>h w (ZK _ hw)];split
  ·rfl
  ·have:x≠n:=by rintro rfl;exact h v ZG
   simp[this]
theorem v5 {acF:Str->Option adw}{x:Str}{v:ZR}:∀{P:List Str} {vs:List ZR} {i:Nat} {m:Str->Option ZR},P.Nodup->P[i]? = some x->vs[i]? = some v->acF x=some .local->
  bindL acF (P.zip vs) m x=some v
 | [],_,_,_,_,h,_,_=>by simp at h
 |_::_,[],_,_,_,_,h,_=>by simp at h
 |p::P,w::vs,0,m,nd,h1,h2,hk=>by
  simp at h1 h2;subst h1;subst h2;show bindL acF ((p,w)::P.zip vs) m p=_;unfold bindL;rw[vY λv hv=>(aax.mp nd).1 (aeq hv).1,hZ hk];simp
 |p::P,w::vs,i+1,m,nd,h1,h2,hk=>by
  show bindL acF ((p,w)::P.zip vs) m x=_;unfold bindL;exact v5 (i:=i) (aax.mp nd).2 (by simpa using h1) (by simpa using h2) hk
theorem v7 {acF:Str->Option adw}{x:Str}{v:ZR}:∀{P:List Str} {vs:List ZR} {i:Nat} {m:Str->Option ZR},P.Nodup->P[i]? = some x->vs[i]? = some v->acF x≠some .local->
  bindC acF (P.zip vs) m x=some v
 | [],_,_,_,_,h,_,_=>by simp at h
 |_::_,[],_,_,_,_,h,_=>by simp at h
 |p::P,w::vs,0,m,nd,h1,h2,hk=>by
  simp at h1 h2;subst h1;subst h2;show bindC acF ((p,w)::P.zip vs) m p=_;unfold bindC;rw[vZ λv hv=>(aax.mp nd).1 (aeq hv).1,hV hk];simp
 |p::P,w::vs,i+1,m,nd,h1,h2,hk=>by
  show bindC acF ((p,w)::P.zip vs) m x=_;unfold bindC;exact v7 (i:=i) (aax.mp nd).2 (by simpa using h1) (by simpa using h2) hk
def adp (N:List Str)(vs:List V):St:=vs.map some++abg (N.length-vs.length) none
def rA (CX:CXT)(P:acC)(w:acs)(K:ZN)(mg:Str->Option ZR)(base:acz)(N:List Str)(qual:Str)(scope:aei)(f:Z_)(cd:ZR)(A:aaC)(outer:List Env)(s:Z5)(H:Hp)(E:XK):Cx where
 prog:=P
 w:=w
 K:=K
 mg:=mg
 base:=base
 A:=A.deeper (aeG qual scope s.heap.objs.size f cd)
 N:=N
 s₀:=s
 H₀:=H
 env:=aeG qual scope s.heap.objs.size f cd
 outer:=outer
 stack:=aeG qual scope s.heap.objs.size f cd::outer
 ex:=[]
 calm:=true
 fn:=λ_=>true
 pn:=[]
 xe:=λe s'=>aac (aan P w) (A.deeper (aeG qual scope s.heap.objs.size f cd)) (leaving (aeG qual scope s.heap.objs.size f cd) e) (λ_ N7=>CX outer H s E e N7) (λe' N7=>CX outer H s E e' N7) s'
theorem yX {sc:aei}(h:sc.names.lookup x=some .cell):∃c,(abZ n sc.names []).lookup x=some c:=by
 have q:=PySem.W.cellsFrom_some sc.names n [] (.inl h);exact Option.isSome_iff_exists.mp q
theorem EK {CX:CXT}{base:acz}{cd:ZR}{A:aaC}{outer:List Env}{s1:Z5}{E:XK}{us:List ZR}(S:aN N ps scope)(hd:A.handled=none)(e0:Kk P w K mg base A outer s H)(hl:vs.length=ps.length)(r:bg vs us)(x:InCallC s s.heap.objs.size (bindL (aeG qual scope s.heap.objs.size f cd).kindOf (ps.zip us) λ_=>none) (abZ (s.heap.objs.size+1) scope.names []) (bindC (aeG qual scope s.heap.objs.size f cd).kindOf (ps.zip us) λ_=>none) s1) :
  aL (rA CX P w K mg base N qual scope f cd A outer s H E) [] (adp N vs) H s1:=by
 have sS:ps.length<=N.length:=by have:=congrArg List.length S.pre;rw[abk] at this;lia
 obtain⟨h1,tk,rfl,hk⟩:=x.done;have TJ:∀b:Z_,b∉(rA CX P w K mg base N qual scope f cd A outer s H E).ex:=λb z=>absurd (show b∈([]:List Z_) from z) (by simp);refine⟨⟨e0.mod,S.kind,rfl,rfl,ZS _,λy z c h1 h2=>?_,λy hy=>?_,λy c _ h=>?_,λ_=>hd,Around.frames_deeper e0.frames,.inr ⟨rfl,rfl⟩,λb z=>absurd z (TJ b),e0.bs,e0.bsz,λb _ _=>TJ b,λb z=>absurd z (TJ b),e0.funs,e0.frf⟩,
  rfl,e0.bare,Un.kept hk,⟨_,x.toInCall.ns,λi y v h1 h2 h3=>?_⟩,λy c h=>⟨_,x.cell y c h⟩,e0.hok.fresh (ZS _),λy c h=>?_,λp hp=>absurd (show p∈([]:List (Z_×Obj)) from hp) (by simp),e0.hok.kept hk,?_⟩
 ·exact name_of_addr x.apart (aas h1) (aas h2)
 ·have hy:scope.names.lookup y=some .cell\/scope.names.lookup y=some .free:=hy;rcases hy with hy|hy
  ·exact yX hy
  ·exact absurd rfl (S.nofree _ (aas hy))
 ·exact ad2 (x.above y c (aas h))
 ·have hi:i<vs.length:=by
   unfold adp at h2;by_cases hi:i<vs.length
   ·exact hi
   ·rw[ab4 (by simpa using hi)] at h2;rw[List.getElem?_replicate] at h2;split at h2<;>cases h2
  have ha:vs[i]? = some v:=by
   unfold adp at h2;rw[abI (by simpa using hi),ZT] at h2;cases e:vs[i]? with
   |none=>rw[e] at h2;cases h2
   |some a=>rw[e] at h2;cases h2;rfl
  obtain⟨u,hu,rv⟩:=r.get ha;have hp:ps[i]? = some y:=by
   rw[←S.pre,aeY (by lia)];exact h1
  have W_:ps.Nodup:=by rw[←S.pre];exact S.nd.sublist (List.take_sublist _ _)
  refine⟨u,rv,?_⟩;rcases S.par y (aa1 hp) with k|k
  ·exact .inl ⟨k,v5 W_ hp hu k⟩
  ·obtain⟨c,e⟩:=yX (n:=s.heap.objs.size+1) k;refine .inr ⟨.inl k,c,e,?_⟩;have q:=x.cell y c e;rw[v7 W_ hp hu (by show scope.names.lookup y≠_;rw[k];decide)] at q;exact q
 ·exact e0.hok.fresh (ad2 (x.above y c (aas h)))
 ·unfold adp;show _=N.length;rw[Z3,ZF,ad5];lia
theorem Rx {CX:CXT}{base:acz}{name:Str}{params:Arguments}{dV kV pK pm cQ ct oc:ZR}{an od:Option Z_}{N8:Array (Option ZR)}{sp:Sp}(lk:K.lookup f=some ⟨oc,od,.func (abA name qual params body scope dV kV pK pm an cQ ct),N8⟩)(ly:aeO K cQ qual=true)(S:aN N ps scope)(len:∀vs H Q E,sp vs H Q E->vs.length=ps.length)(jq:∀(A:aaC) (outer:List Env) (s:Z5) (H:Hp) (vs:List V) (Q:VK) (E:XK),f9 k (A.deeper (aeG qual scope s.heap.objs.size f cQ))->sp vs H Q E->
   ∃t,vt (rA CX P w K mg base N qual scope f cQ A outer s H E) body t/\t {nx:=λ_ H'=>Q .non H',rt:=Q} (adp N vs) H) :
  mP P w K mg base CX (k+1) f (abA name qual params body scope dV kV pK pm an cQ ct) ps sp:=by
 refine⟨len,λA outer s H args us vs Q E hr e0 hb r N9=>?_⟩;have hl:=len _ _ _ _ N9;have KX:K.In s.heap:=e0.mod.kin.keeps λb o e=>(e0.bs b o e).1;have X9:s.heap.NoLimit:=e0.mod.nolimit.keeps λb o e=>(e0.bs b o e).1;have TL:∀y∈ps.zip us,scope.names.lookup y.1=some .local\/(scope.names.lookup y.1=some .cell/\((abZ (s.heap.objs.size+1) scope.names []).lookup y.1).isSome=true):=fun⟨n,v⟩ hy=>by
  rcases S.par n (aeq hy).1 with q|q
  ·exact .inl q
  ·exact .inr ⟨q,PySem.W.cellsFrom_some _ _ _ (.inl q)⟩
 refine codeAny_call_function hr.depth (KX _ _ lk) rfl S.co S.gen rfl (PySem.W.codeRec_of KX ly) (hb _ _ _ _ ?_);refine wpAny_newFunctionEnv_cells S.kind TL λenv he s1 x=>?_;subst he;refine⟨X9.keeps x.toInCall.keep,codeAny_func ?_⟩;obtain⟨t,ht,hq⟩:=jq A outer s H vs Q E (hr.deeper _) N9;have I:aL (rA CX P w K mg base N qual scope f cQ A outer s H E) [] (adp N vs) H s1:=EK S hr.hd e0 hl r x;refine aaM (ht [] s1 (adp N vs) H _ I hq) (λfl s' hs=>?_) λe s' hs=>hs;have fin:∀{σ':St} {H':Hp} {v:V} {u:ZR},aL (rA CX P w K mg base N qual scope f cQ A outer s H E) [] σ' H' s'->aZ v u->Q v H'->CE outer P w H s Q u s' :=
  λ{σ' H' v u} J rv q=>⟨v,H',J.os,J.bare,J.base,J.hok,rv,q⟩
 cases fl with
 |ret u=>
  obtain⟨v,σ',H',J,rv,q⟩:=hs;exact fin J rv q
 |next=>
  obtain⟨σ',H',J,q⟩:=hs;exact fin (v:=V.non) (u:=Value.none) J rfl q
 |brk=>
  obtain⟨_,_,_,q⟩:=hs;exact acR q
 |cont=>
  obtain⟨_,_,_,q⟩:=hs;exact acR q
end L2
variable {CX:L2.CXT}{sp:L2.Sp}
namespace L2
section
variable {p pos:Pos}{e:abH}{es:List abH}{t:TA}{id T:String}{r:List V->Hp->VK->Prop}
def U8 (r:List V->Hp->VK->Prop)(t:TA):TE:=λσ H Q=>t σ H λvs H1=>r vs H1 Q
theorem sZ (hc:fB X (.builtin id) r)(hg:Gl X x)(hm:X.mg x=none)(hv:aaO x=some (.builtin id))(ha:PA X (e::es) t)(hn:x≠"__name__":=by decide)(Ct:(x==("__debug__":Str))=false:=by decide)
  (he:Z8 (e::es) X.env=(false,acD e X.env)::Z8 es X.env:=by rfl) (sS:(abW pos (Z8 es X.env)).any (·.1)=false:=by rfl):PE X (.Call (.Name x p) (e::es) [] pos) (U8 r t):=by
 intro pins s σ H Q I h;refine aeF (sT I hg hm hv ?_ hn Ct);exact PyProof.Rows.callWith_builtin1 (fQ (ha pos pins s σ H _ I h) λus s1 ⟨vs,H1,I1,r1,q1⟩=>hc pins s1 σ H1 vs us Q I1 r1 q1) he sS
theorem gJ (hc:fB X (.type T) r)(hg:Gl X x)(hm:X.mg x=none)(hv:aaO x=some (.type T))(ha:PA X (e::es) t)(hn:x≠"__name__":=by decide)(Ct:(x==("__debug__":Str))=false:=by decide)
  (he:Z8 (e::es) X.env=(false,acD e X.env)::Z8 es X.env:=by rfl) (sS:(abW pos (Z8 es X.env)).any (·.1)=false:=by rfl):PE X (.Call (.Name x p) (e::es) [] pos) (U8 r t):=by
 intro pins s σ H Q I h;refine aeF (sT I hg hm hv ?_ hn Ct);exact abY (fQ (ha pos pins s σ H _ I h) λus s1 ⟨vs,H1,I1,r1,q1⟩=>hc pins s1 σ H1 vs us Q I1 r1 q1) he sS
end
end L2
namespace HT
section
variable {A:aaC}
theorem cat_tup {t:Z_}{vs ws:List ZR}(ht:IsTup s.heap t vs.toArray)(hb:IsTup s.heap b ws.toArray)(hv:vs≠[])(h1:ws=[]->Q (.ref t) s)(h2:ws≠[]->Q (.ref s.heap.objs.size) {s with heap:=s.heap.push {cls:=.type "tuple",data:=.seq (vs++ws).toArray}})(hsz:vs.length+ws.length<=ZL):aac (aan prog w) A (acS .Add (.ref t) (.ref b)) Q E s:=by
 obtain⟨⟨cls,dd,data,sl⟩,ho,hc,n,hd⟩:=id ht;obtain⟨⟨cls2,dd2,data2,sl2⟩,ho2,QT,n2,F2⟩:=id hb;simp only at hc hd QT F2;subst hc hd QT F2;have e:vs.toArray++ws.toArray=(vs++ws).toArray:=by simp
 by_cases hw:ws=[]
 ·exact concat_meets ⟨_,ho,rfl⟩ ⟨_,ho2,rfl⟩ noFill_tuple_add seq_tuple_add adJ adx (adn _ _)
   (tuple_addW1 t b vs.toArray ws.toArray n n2 dd dd2 sl sl2 (by simpa using hv) (by simp[hw])) ⟨ho,ho2,h1 hw⟩
 ·refine concat_meets ⟨_,ho,rfl⟩ ⟨_,ho2,rfl⟩ noFill_tuple_add seq_tuple_add adJ adx (adn _ _)
   (tuple_addW2 t b vs.toArray ws.toArray n n2 dd dd2 sl sl2 (by simpa using hv) (by simpa using hw) (by rw[ZZ,ZZ];exact hsz)) ⟨ho,ho2,?_⟩
  rw[e];exact h2 hw
def sIx (n d:Nat):Option Int->Nat
 |none=>d
 |some v=>if v<0 then (v+(n:Int)).toNat else min v.toNat n
end
end HT
namespace L2
theorem i9:∀{us:List ZR},bg (ns.map V.int) us->adQ us ns:=by
 induction ns with
 |nil=>intro us r;rw[aaI] at r;cases r;exact .nil
 |cons n ns ih=>
  intro us r;rw[ZI] at r;cases r with
  |cons r1 r2=>
   obtain⟨t,e⟩:=r1;subst e;exact .cons n t (ih r2)
section
variable {e:abH}{lo hi:Option abH}{tl th:TO}{pos p2:Pos}
def Ry (K:ZN):R2:=λx y H Q=>∃a b xs ys,x=.ref a/\y=.ref b/\iC K H a xs/\iC K H b ys/\xs≠[]/\xs.length+ys.length<=ZL/\
 (ys=[]->Q (.ref a) H)/\(ys≠[]->∀p,H p=none->Q (.ref p) (cH H p (.tup (xs++ys))))
theorem bg.nil_iff {us:List ZR}(r:bg xs us):us=[]↔xs=[]:=by
 cases r with
 |nil=>simp
 |cons _ _=>simp
theorem Km:lC X (acS .Add) (Ry X.K):=by
 intro pins s σ H x y v u Q I rx ry h;obtain⟨a,b,xs,ys,rfl,rfl,ha,hb,hx,hz,q1,q2⟩:=h;cases rx;cases ry;obtain⟨aD,r1,p1,_⟩:=I.tuple ha;obtain⟨its2,r2,p2,_⟩:=I.tuple hb;refine HT.cat_tup p1 p2 (λz=>hx (r1.nil_iff.mp z)) (λz=>⟨.ref a,H,I,rfl,q1 (r2.nil_iff.mp z)⟩) (λz=>?_) (by rw[←r1.length,←r2.length];exact hz);refine⟨.ref s.heap.objs.size,_,I.laid (t':=s.toks) (o:=.tup (xs++ys)) (λb ob q=>ZP _ q) (ZS _) ?_,rfl,q2 (λw=>z (r2.nil_iff.mpr w)) _ (I.hok.fresh (ZS _))⟩;exact⟨by rw[Z3];exact hz,_,r1.append r2,IsTup.new _ _,_,ZW _ rfl⟩
end
end L2
namespace L2
def Bf (n:Nat)(i:Int):Option Nat:=if 0<=i then (if i<n then some i.toNat else none) else if -(n:Int)<=i then some (i+n).toNat else none
def pJ {α:Type}(xs:List α)(i:Int):Option α:=(Bf xs.length i).bind λj=>xs[j]?
theorem CM {i:Int}(h:Bf n i=some j):aeZ i n=some j/\j<n/\ -(n:Int)<=i/\i<n:=by
 unfold Bf at h;by_cases h0:0<=i
 ·rw[hZ h0] at h;by_cases h1:i<n
  ·rw[hZ h1] at h;have e:i.toNat=j:=aab h;exact⟨by rw[seqIndex_of h0 h1,e],by lia,by lia,h1⟩
  ·rw[hV h1] at h;cases h
 ·rw[hV h0] at h;by_cases h1 : -(n:Int)<=i
  ·rw[hZ h1] at h;have e:(i+n).toNat=j:=aab h;exact⟨by rw[seqIndex_neg (by lia) h1,e],by lia,h1,by lia⟩
  ·rw[hV h1] at h;cases h
theorem xl {α:Type}{xs:List α}{i:Int}{v:α}(h:pJ xs i=some v):∃j,aeZ i xs.length=some j/\xs[j]? = some v/\j<xs.length/\ -(xs.length:Int)<=i/\i<xs.length:=by
 unfold pJ at h;cases e:Bf xs.length i with
 |none=>rw[e] at h;cases h
 |some j=>
  rw[e] at h;obtain⟨h1,h2,h3,h4⟩:=CM e;exact⟨j,h1,h,h2,h3,h4⟩
def CN (b:abH):Prop:=∀o i,subscripted b false o i=operate [o,i] (getItem o i)
def JX (X:Cx)(r:R2):Prop:=
 ∀(value kr:abH) (pins:List (Z_×Obj)) (s:Z5) (σ:St) (H:Hp) (x y:V) (v u:ZR) (Q:VK),aL X pins σ H s->aZ x v->aZ y u->r x y H Q->
  subscripted kr false v u=operate [v,u] (getItem v u)->aac (aan X.prog X.w) X.A (subscriptTail value kr v u) (EP X pins σ Q) X.xe s
def Kn (X:Cx)(id:String)(r:V->List V->Hp->VK->Prop):Prop:=
 ∀(pins:List (Z_×Obj)) (s:Z5) (σ:St) (H:Hp) (x:V) (xs:List V) (v:ZR) (us:List ZR) (Q:VK),aL X pins σ H s->aZ x v->bg xs us->r x xs H Q->
  aac (aan X.prog X.w) X.A (call (.builtin id) (v::us)) (EP X pins σ Q) X.xe s
section
variable {a b:abH}{ta tb:TE}{pos:Pos}
theorem JX.or {r':R2}(h:JX X r)(h':JX X r'):JX X (λx y H Q=>r x y H Q\/r' x y H Q):=by
 intro value kr pins s σ H x y v u Q I rx ry q hs;rcases q with q|q
 ·exact h value kr pins s σ H x y v u Q I rx ry q hs
 ·exact h' value kr pins s σ H x y v u Q I rx ry q hs
theorem Kn.or {id:String}{r r':V->List V->Hp->VK->Prop}(h:Kn X id r)(h':Kn X id r'):Kn X id (λx xs H Q=>r x xs H Q\/r' x xs H Q):=by
 intro pins s σ H x xs v us Q I rx rs q;rcases q with q|q
 ·exact h pins s σ H x xs v us Q I rx rs q
 ·exact h' pins s σ H x xs v us Q I rx rs q
theorem Rz (hr:JX X r)(ha:PE X a ta)(hb:PE X b tb)(hs:CN b):PE X (.Subscript a b pos) (Rj r ta tb):=by
 intro pins s σ H Q I h;exact Subscript_ (OA ha hb I h λv u s2 x y H2 I2 rx ry q=>hr a b pins s2 σ H2 x y v u Q I2 rx ry q (hs _ _))
def RA (K:ZN):R2:=λx y H Q=>∃p xs i v,x=.ref p/\y=.int i/\fu K H p xs/\pJ xs i=some v/\Q v H
def RB (K:ZN):R2:=λx y H Q=>∃p xs i v,x=.ref p/\y=.int i/\iC K H p xs/\pJ xs i=some v/\Q v H
def RC:R2:=λx y H Q=>∃z i c,x=.str z/\y=.int i/\z.length<=ZL/\pJ z.cps.toList i=some c/\Q (.str ⟨#[c]⟩) H
theorem Ko:JX X (RA X.K):=by
 intro value kr pins s σ H x y v u Q I rx ry h hs;obtain⟨p,xs,i,z,rfl,rfl,hq,he,q⟩:=h;cases rx;obtain⟨t,rfl⟩:=ry;obtain⟨aD,r,pl,hz⟩:=I.list hq;obtain⟨j,h1,h2,h3,h4,h5⟩:=xl he;obtain⟨w,ew,CA⟩:=r.get h2;have hl:=r.length;have hn:=sX;have fin:EP X pins σ Q w s:=⟨z,H,I,CA,q⟩;by_cases h0:0<=i
 ·have hj:i.toNat=j:=by
   rw[seqIndex_of h0 h5] at h1;exact aab h1
  exact item_listR pl.isList h0 (by lia) (by rw[hj];simpa using ew) fin hs
 ·have hj:(i+(aD.toArray.size:Int)).toNat=j:=by
   rw[seqIndex_neg (by lia) h4] at h1;rw[ZZ,←hl];exact aab h1
  exact subscriptTail_builtinR (x:=w) pl.isList.typeIs slot_list_getitem.lookup
   (wpAny_getItem_list_neg (Q:=λr s'=>r=w/\EP X pins σ Q r s') pl.isList (by lia) (by rw[ZZ]<;>lia) (by lia) (by rw[hj];simpa using ew) ⟨rfl,fin⟩) hs
theorem OH:JX X (RB X.K):=by
 intro value kr pins s σ H x y v u Q I rx ry h hs;obtain⟨p,xs,i,z,rfl,rfl,hq,he,q⟩:=h;cases rx;obtain⟨t,rfl⟩:=ry;obtain⟨aD,r,pl,hz⟩:=I.tuple hq;obtain⟨j,h1,h2,h3,h4,h5⟩:=xl he;obtain⟨w,ew,CA⟩:=r.get h2;have hl:=r.length;have hn:=sX;have fin:EP X pins σ Q w s:=⟨z,H,I,CA,q⟩;exact subscriptTail_builtinR (x:=w) pl.typeIs slot_tuple_getitem.lookup
  (getItem_tuple (j:=j) (Q:=λr s'=>r=w/\EP X pins σ Q r s') pl (by lia) (by lia) (by rw[ZZ,←hl];exact h1) (by simpa using ew) ⟨rfl,fin⟩) hs
theorem OI:JX X RC:=by
 intro value kr pins s σ H x y v u Q I rx ry h hs;obtain⟨z,i,c,rfl,rfl,hz,he,q⟩:=h;obtain⟨t,rfl⟩:=rx;obtain⟨t',rfl⟩:=ry;obtain⟨j,h1,h2,h3,h4,h5⟩:=xl he;have hl:z.cps.toList.length=z.length:=by simp[Str.length]
 rw[hl] at h1 h4 h5;have hn:=sX;exact tail_any (typeIs_str s z t) slot_str_getitem.lookup (getItem_str (c:=c) (by
  have e1:decide (i < -(2 ^ 63:Int))=false:=hJ (by lia);have e2:decide (i≥2 ^ 63)=false:=hJ (by lia);rw[e1,e2,Bool.or_false]) (by rw[h1];simpa using h2) ⟨.str ⟨#[c]⟩,H,I.tok _,⟨_,rfl⟩,q⟩) hs
def Wv (K:ZN):R2:=λx y H Q=>RA K x y H Q\/RB K x y H Q\/RC x y H Q
theorem aI:JX X (Wv X.K):=Ko.or (OH.or OI)
theorem Bg (aD:List ZR)(n j:Nat)(u:ZR):acU (·.setIfInBounds j u) {cls:=.type "list",data:=.seq aD.toArray n}={cls:=.type "list",data:=.seq (aD.set j u).toArray n}:=by
 simp[acU]
theorem aL.lst {p:Z_}(I:aL X pins σ H s)(h:H p=some (.lst xs)) :
  ∃(aD:List ZR) (n:Nat),bg xs aD/\s.heap.get? p=some {cls:=.type "list",data:=.seq aD.toArray n}/\xs.length<=ZL:=by
 obtain⟨z,aD,n,r,e⟩:=I.hok p _ h;exact⟨aD,n,r,e,z⟩
theorem aL.lstUpd {p:Z_}{ys:List V}{its':List ZR}{n':Nat}{f:Obj->Obj}(I:aL X pins σ H s)(h:H p=some (.lst xs))(ho:s.heap.get? p=some {cls:=.type "list",data:=.seq aD.toArray n})(hf:f {cls:=.type "list",data:=.seq aD.toArray n}={cls:=.type "list",data:=.seq its'.toArray n'})(r:bg ys its')(hz:ys.length<=ZL)(t:Nat) :
  aL X pins σ (cH H p (.lst ys)) {s with heap:=s.heap.update p f,toks:=t}:=by
 have e:(s.heap.update p f).get? p=some {cls:=.type "list",data:=.seq its'.toArray n'}:=by
  rw[abL f ho (by rw[hf]<;>rfl),hf]
 refine I.write (x:=p) (e:=p) (by rw[h];trivial) (.inl rfl) (λb u hb q=>(Heap.get?_update_other _ _ (Ne.symm hb)).trans q) ⟨_,e⟩ ?_;exact⟨hz,its',n',r,e⟩
def ME:V->V->V->Hp->(Hp->Prop)->Prop:=λo i v H Q=>∃p xs k j,o=.ref p/\i=.int k/\H p=some (.lst xs)/\Bf xs.length k=some j/\Q (cH H p (.lst (xs.set j v)))
theorem s9:Rc X ME:=by
 intro pins s σ H o i v ov iv u Q I ro ri rv h;obtain⟨p,xs,k,j,rfl,rfl,hp,hj,q⟩:=h;cases ro;obtain⟨t,rfl⟩:=ri;obtain⟨aD,n,r,ho,hz⟩:=I.lst hp;obtain⟨h1,h2,h3,h4⟩:=CM hj;have hl:=r.length;have hn:=sX;have I':aL X pins σ (cH H p (.lst (xs.set j v))) {s with heap:=s.heap.update p (acU (·.setIfInBounds j u))}:=
  I.lstUpd hp ho (Bg aD n j u) (r.set rv j) (by rw[aaJ];exact hz) s.toks
 by_cases h0:0<=k
 ·have hk:k.toNat=j:=by
   rw[seqIndex_of h0 h4] at h1;exact aab h1
  exact PySem.W.ki_setAt ho h0 (by lia) (by rw[ZZ,←hl];exact h4) (by rw[hk];exact⟨_,I',q⟩)
 ·have hk:(k+(aD.toArray.size:Int)).toNat=j:=by
   rw[seqIndex_neg (by lia) h3] at h1;rw[ZZ,←hl];exact aab h1
  exact PySem.W.ki_setBack ho (by lia) (by rw[ZZ,←hl];exact h3) (by lia) (by rw[hk];exact⟨_,I',q⟩)
theorem bf:fB X (.type "tuple") (λxs H Q=>∃p ys,xs=[.ref p]/\((fu X.K H p ys/\∀l,H l=none->Q (.ref l) (cH H l (.tup ys)))\/(iC X.K H p ys/\Q (.ref p) H))):=by
 intro pins s σ H xs us Q I r h;obtain⟨p,ys,rfl,h⟩:=h;obtain⟨u,rfl,rx⟩:=jE r;cases rx;rcases h with⟨hq,q⟩|⟨hq,q⟩
 ·obtain⟨aD,r',pl,hz⟩:=I.list hq;have nX:=r'.length;refine call_tuple_list pl.isList (λh' kp=>?_) (by simp only[ZZ]<;>lia);have I1:aL X pins σ H {s with heap:=h'}:=I.kept (t':=s.toks) kp;have I2:aL X pins σ (cH H h'.objs.size (.tup ys)) {s with heap:=h'.push {cls:=.type "tuple",data:=.seq aD.toArray}}:=
   I1.laid (t':=s.toks) (λb o e=>ZP _ e) (ZS _) (show dH X.prog X.w _ _ _ (.tup ys) from ⟨hz,aD,r',IsTup.new _ _,_,ZW _ rfl⟩)
  exact⟨.ref h'.objs.size,_,I2,rfl,q _ (I1.hok.fresh (ZS _))⟩
 ·obtain⟨aD,r',pl,hz⟩:=I.tuple hq;exact call_tuple_same pl ⟨.ref p,H,I,rfl,q⟩
def U9 (K:ZN)(T:String)(x:V)(H:Hp):Prop:=match x with
 | .str _=>T="str"
 | .int _=>T="int"
 | .ref p=>(T="list"/\∃xs,fu K H p xs)\/(T="tuple"/\((∃o,K.lookup p=some o/\o.cls=.type "tuple"/\o.dict=none)\/∃xs,H p=some (.tup xs))) \/
   (T="dict"/\((∃bb,H p=some (.dK bb))\/∃bb,H p=some (.dT bb)))\/(T="set"/\∃S n,H p=some (.set S n))
 |_=>False
theorem OJ {T:String}{x:V}{v:ZR}(I:aL X pins σ H s)(r:aZ x v)(ty:U9 X.K T x H) :
  s.TypeIs v T/\∀a,v=.ref a->∃ob,s.heap.get? a=some ob/\ob.dict=none:=by
 cases x with
 |str z=>
  obtain⟨t,rfl⟩:=r;cases (show T="str" from ty);exact⟨typeIs_str s z t,λ_ e=>nomatch e⟩
 |int i=>
  obtain⟨t,rfl⟩:=r;cases (show T="int" from ty);exact⟨typeIs_int s i t,λ_ e=>nomatch e⟩
 |ref p=>
  cases r;rcases ty with⟨rfl,xs,hq⟩|⟨rfl,⟨o,hk,hc,hd⟩|⟨xs,hq⟩⟩|⟨rfl,hk⟩|⟨rfl,S,n,hk⟩
  ·obtain⟨aD,_,pl,_⟩:=I.list hq;refine⟨pl.isList.typeIs,λa e=>?_⟩;cases e;obtain⟨o,n,e,c,hd,_⟩:=pl;exact⟨o,e,hd⟩
  ·refine⟨⟨o,I.kIn p o hk,hc⟩,λa e=>?_⟩;cases e;exact⟨o,I.kIn _ o hk,hd⟩
  ·obtain⟨_,aD,_,⟨o,e,c,_⟩,n2,e2⟩:=I.hok p _ hq;refine⟨⟨o,e,c⟩,λa e'=>?_⟩;cases e';exact⟨_,e2,rfl⟩
  ·have z:∃o,s.heap.get? p=some o/\o.ExactDict:=by
    rcases hk with⟨bb,hk⟩|⟨bb,hk⟩
    ·obtain⟨_,_,_,_,o,_,_,e,ex,_⟩:=I.hok p _ hk;exact⟨o,e,ex⟩
    ·obtain⟨_,_,_,_,o,_,_,e,ex,_⟩:=I.hok p _ hk;exact⟨o,e,ex⟩
   obtain⟨o,e,ex⟩:=z;refine⟨⟨o,e,ex.1⟩,λa e2=>?_⟩;cases e2;exact⟨o,e,ex.2.1⟩
  ·obtain⟨o,_,_,_,e,ex,_⟩:=I.hok p _ hk;refine⟨⟨o,e,ex.1⟩,λa e2=>?_⟩;cases e2;exact⟨o,e,ex.2.1⟩
 |_=>exact acR ty
def Ww (K:ZN)(T:String)(r:V->List V->Hp->VK->Prop)(to:TE)(t:TA):TE:=λσ H Q=>to σ H λx H1=>U9 K T x H1/\t σ H1 λxs H2=>r x xs H2 Q
variable {o e:abH}{es:List abH}{to:TE}{t:TA}{name:Str}{eQ cpos:Pos}{T id:String}{r:V->List V->Hp->VK->Prop}
theorem Gf (pa:PlainAttrs T)(slot:Slot T name id)(VO:typeOf (.builtin id)=pure (.type "method_descriptor"))(hm:Kn X id r)(ho:PE X o to)(ha:PA X (e::es) t)
  (vc:acV o name X.env (acD o X.env)=acD o X.env:=by rfl)
  (Cu:((abW cpos (Z8 (e::es) X.env)).all (λx=> !x.1)&&(backToKw cpos (adR [] X.env)).all (λx=>x.1.isSome)
   && decide ((e::es).length+([]:List adu).length+(if ([]:List adu).isEmpty then 0 else 1)<30))=true:=by rfl)
  (vd:(eQ.endLine==cpos.line)=true:=by rfl) (hs:Z8 (e::es) X.env=(false,acD e X.env)::Z8 es X.env:=by rfl) (nY:(abW cpos (Z8 es X.env)).any (·.1)=false:=by rfl) :
  PE X (.Call (.Attribute o name eQ) (e::es) [] cpos) (Ww X.K T r to t):=by
 intro pins s σ H Q I h;refine wpAny_Call_method_late vc Cu vd rfl (fQ (ho pins s σ H _ I h) λv s1 ⟨x,H1,I1,r1,ty,q1⟩=>?_);obtain⟨h1,h2⟩:=OJ I1 r1 ty;refine⟨T,id,pa,slot,VO,h1,h2,?_⟩;have hA:=ha cpos pins s1 σ H1 _ I1 q1;rw[hs] at hA ⊢;refine adK (by show (false||(abW cpos (Z8 es X.env)).any (·.1))=false;rw[nY]<;>rfl) (Calls.evalArgs_plain ?_);exact fQ hA λus s2 ⟨vs,H2,I2,r2,q2⟩=>hm pins s2 σ H2 x vs v us Q I2 r1 r2 q2
end
end L2
namespace L2
def U_ (X:Cx)(id:String)(r:V->List V->Hp->VK->Prop):Prop:=
 ∀(pins:List (Z_×Obj)) (s:Z5) (σ:St) (H:Hp) (x:V) (xs:List V) (v:ZR) (us:List ZR) (Q:VK),aL X pins σ H s->aZ x v->bg xs us->r x xs H Q->
  aac (aan X.prog X.w) X.A (call (.builtin id) (v::us)) (EP X pins σ Q) X.xe s
theorem bg.one:∀{x:V} {us:List ZR},bg [x] us->∃u,us=[u]/\aZ x u
 |_,_,.cons r .nil=>⟨_,rfl,r⟩
theorem bg.eraseIdx:∀{xs:List V} {us:List ZR} (i:Nat),bg xs us->bg (xs.eraseIdx i) (us.eraseIdx i)
 |_,_,_,.nil=>.nil
 |_,_,0,.cons _ t=>t
 |_,_,i+1,.cons r t=>.cons r (bg.eraseIdx i t)
theorem v8 {α:Type}:∀(l:List α) (i:Nat),(l.eraseIdx i).length<=l.length
 | [],_=>ZS _
 |_::_,0=>Nat.le_succ _
 |_::r,i+1=>Nat.succ_le_succ (v8 r i)
section
variable {l:Z_}{ys zs:List V}
theorem aL.lset {t':Nat}{its':List ZR}{f:Array ZR->Array ZR}(I:aL X pins σ H s)(hH:H l=some (.lst xs))(e:s.heap.get? l=some {cls:=.type "list",data:=.seq aD.toArray n})(hf:f aD.toArray=its'.toArray)(hv:bg ys its')(hz:ys.length<=ZL) :
  aL X pins σ (cH H l (.lst ys)) {s with heap:=s.heap.update l (acU f),toks:=t'}:=by
 have q:=PySem.IsL.update e f;rw[hf] at q;refine I.write (x:=l) (e:=l) (by rw[hH];exact trivial) (.inl rfl) (λb' u hb hu=>(Heap.get?_update_other s.heap (acU f) (Ne.symm hb)).trans hu) ⟨_,q⟩ ?_;exact⟨hz,its',_,hv,q⟩
theorem aL.lnew {t':Nat}(I:aL X pins σ H s)(hv:bg ys aD)(hz:ys.length<=ZL) :
  aL X pins σ (cH H s.heap.objs.size (.lst ys)) {s with heap:=s.heap.push {cls:=.type "list",data:=.seq aD.toArray},toks:=t'}:=
 I.laid (λ_ _ q=>ZP _ q) (ZS _) ⟨hz,aD,0,hv,ZW _ rfl⟩
theorem aL.fresh (I:aL X pins σ H s):H s.heap.objs.size=none:=I.hok.fresh (ZS _)
theorem aL.lstM (I:aL X pins σ H s)(hH:H l=some (.lst xs)):xs.length<=ZL/\∃(aD:List ZR) (n:Nat),bg xs aD/\xs.length=aD.length/\s.heap.get? l=some {cls:=.type "list",data:=.seq aD.toArray n}:=by
 obtain⟨z,aD,n,r,e⟩:=I.hok l _ hH;exact⟨z,aD,n,r,r.length,e⟩
theorem s_ (h:n<=ZL):acj n=false:=by
 unfold acj;exact hJ (by lia)
end
def CP:V->List V->Hp->VK->Prop:=λx vs H Q=>∃l xs y,x=.ref l/\vs=[y]/\H l=some (.lst xs)/\xs.length<ZL/\Q .non (cH H l (.lst (xs++[y])))
theorem iZ:U_ X "list.append" CP:=by
 intro pins s σ H x vs v us Q I rx rv h;obtain⟨l,xs,y,rfl,rfl,hH,hz,q⟩:=h;cases rx;obtain⟨u,rfl,ru⟩:=rv.one;obtain⟨z,aD,n,r,hl,e⟩:=I.lstM hH;refine aem F.slot_list_append ⟨_,e,rfl⟩ F.entry_list_append (F.args_list_append_2 _ _) (PySem.list_append l aD.toArray n u (by rw[ZZ];lia)) ⟨e,?_⟩;refine⟨.non,_,I.lset (its':=aD++[u]) hH e (by simp) (r.append (.cons ru .nil)) ?_,rfl,q⟩;rw[Z3,abp];lia
def Gg:V->List V->Hp->VK->Prop:=λx vs H Q=>∃l xs i k y,x=.ref l/\vs=[.int i]/\H l=some (.lst xs)/\ -(2 ^ 63)<=i/\i<2 ^ 63/\aeZ i xs.length=some k/\xs[k]? = some y/\Q y (cH H l (.lst (xs.eraseIdx k)))
theorem Gh:U_ X "list.pop" Gg:=by
 intro pins s σ H x vs v us Q I rx rv h;obtain⟨l,xs,i,k,y,rfl,rfl,hH,h1,h2,hk,hy,q⟩:=h;cases rx;obtain⟨u,rfl,ru⟩:=rv.one;obtain⟨t,rfl⟩:=ru;obtain⟨z,aD,n,r,hl,e⟩:=I.lstM hH;obtain⟨w,hw,CA⟩:=r.get hy;refine aem F.slot_list_pop ⟨_,e,rfl⟩ F.entry_list_pop (F.args_list_pop_2 _ _)
  (MeetsSeq.list_pop_at l aD.toArray n i t k w (fitsIndex_both h1 h2) (by rw[ZZ,←hl];exact hk) (by rw[←aaj];exact hw) (by rw[ZZ];lia)) ⟨e,?_⟩
 refine⟨y,_,I.lset (its':=aD.eraseIdx k) hH e ?_ (r.eraseIdx k) ?_,CA,q⟩
 ·show aD.toArray.eraseIdxIfInBounds k=(aD.eraseIdx k).toArray;rw[List.eraseIdxIfInBounds_toArray]
 ·have:=v8 xs k;lia
section
variable {A:aaC}
set_option maxRecDepth 100000 in
end
end L2
namespace Att
open PySem.W PySem.Calls
theorem rB {P:Params}:∀(ns:List Int) (vs:List ZR),WellAll P h vs (ns.map WData.int)->adQ vs ns:=by
 intro ns
 induction ns with
 |nil=>
  intro vs w;rw[aaI] at w;cases w;exact .nil
 |cons n ns ih=>
  intro vs w;rw[ZI] at w;cases w with
  |cons a b=>
   cases a;exact .cons _ _ (ih _ b)
theorem EL {l:OpenLaw}(hn:l.most=some n){P:Params}{args:List WData}{QE:List ZR}(Mq:l.row.toRowW.claim.pre args=true)(VP:WellAll P h QE args) :
  ∃a vs ns,QE=[Value.ref a]/\args=[WData.list (ns.map WData.int)]/\h.get? a=some {cls:=.type "list",data:=.seq vs.toArray}/\adQ vs ns/\ns.length<=n:=by
 have X_:WShape.hasAll [] args [.list .int]=true:=(pre_splitW Mq).1;have hc:l.pre.holds [] {args:=args}=true:=(pre_splitW Mq).2;obtain⟨d,r,rfl,h1,h2⟩:=hasAllW_cons X_;obtain rfl:=hasAllW_nil h2;obtain⟨xs,rfl,h3⟩:=hasW_list h1;obtain⟨ns,rfl⟩:=items_int h3;have nX:ns.length<=n:=by
  unfold OpenLaw.pre at hc;have h4:(WTm.not (.lt (.lit (.int (n:Int))) (.len (.arg 0)))).holds [] {args:=[.list (ns.map .int)]}=true:=by
   have h4:=(holds_andW hc).1;rw[hn] at h4;exact h4
  have h5:=condW_of h4 (w_not (w_lt w_lit (w_len_list (w_arg rfl))));rw[ZF] at h5;refine Nat.le_of_not_lt λq=>?_;have q':(n:Int)<((ns.length:Nat):Int):=by lia
  first
   | (rw[hG q'] at h5;exact absurd h5 (by decide))
   | (simp at h5;lia)
 cases VP with
 |cons w1 w2=>
  cases w2;cases w1 with
  |list ho JW=>exact⟨_,_,ns,rfl,rfl,ho,rB ns _ JW,nX⟩
theorem EM (l:OpenLaw)(args:List WData):l.row.toRowW.claim.post args (.bool true) args=true:=
 postW_of (r:=l.row.toRowW) (X:=(true==true))
  (show WShape.has [] (.bool true) .bool=true by first|rfl|decide|simp[WShape.has,WShape.arms,WShape.armsAll])
  (show (WTm.eq .res (.lit (.bool true))).value [] {args:=args,res:=some (.bool true),after:=args}=some (.bool (true==true)) from w_eq_bool (w_res rfl) w_lit) rfl
theorem attach_call {l:OpenLaw}{d:DefRec}(hn:l.most=some n)(TM:d.params.defaults=[])(call:∀(w:acs) (s₀ s₁:Z5) (mg mb:Str->Option ZR) (fa:Z_) (o:Obj) (pm cd pK:ZR) (a:Z_) (vs:List ZR) (ns:List Int),
   Ground q loose [] XP w s₀ mg mb s₁.heap->YP w s₁.heap->
   s₁.heap.get? fa=some o->o.data=.func (docDef d.name d.params d.body d.scope pm cd pK)->s₁.heap.CodeRec cd d.name->mg d.name=some (.ref fa)->
   s₁.heap.get? a=some {cls:=.type "list",data:=.seq vs.toArray}->adQ vs ns->ns.length<=n->s₁.gens=#[]->
   codeAny (aan l.prog w) callerA (.call (.ref fa) ⟨[.ref a],[]⟩) (λr s'=>r=.ok (.ret (.bool true))/\OldK s₁.heap s'.heap/\s'.os=s₁.os/\AllBare s'.gens) s₁) :
  WalkO q loose XP YP l.row.toRowW d [] (λf vs=>PySem.call f vs):=by
 intro w s₀ s₁ mg mb G Y fa o pm cd pK dV kV ho hd ly hD TN hg args QE as Mq Ya Zh VP Zi;obtain rfl:dV=.none:=Dflts.none hD TM;obtain rfl:kV=.none:=Dflts.noKw hD;obtain⟨a,vs,ns,rfl,rfl,QF,JM,nX⟩:=EL hn Mq VP;refine enter_call (ad4 (call w s₀ s₁ mg mb fa o pm cd pK a vs ns G Y ho (fd_plain hd) ly TN QF JM nX hg) λr s' hq=>?_);obtain⟨rfl,h2,h3,h4⟩:=hq;exact⟨.inl ⟨.bool true,.bool true,[],rfl,λ_=>rfl,.bool true,EM l _,λ_=>⟨List.Pairwise.nil,λ_ hm=>(nomatch hm)⟩⟩,h2,h3,h4⟩
end Att
namespace L2
theorem pN:∀{vs:List ZR} {ns:List Int},adQ vs ns->bg (ns.map V.int) vs
 |_,_,.nil=>.nil
 |_,_,.cons n t h=>.cons ⟨t,rfl⟩ (pN h)
def Kp (H:Hp):Prop:=∀b,H b=none\/∃o xs,H b=some (.frz o (.lst xs))
theorem Gi {mb:Str->Option ZR}{fa:Z_}{s₁:Z5}{vs:List ZR}(KX:K.In s₁.heap)(Xa:s₁.heap.Ns aaF mg)(hb:s₁.heap.Ns builtinsNs mb)(Yb:∀x:Str,x≠"__name__"->mb x=aaO x)(VQ:s₁.heap.NoLimit)(hg:s₁.gens=#[])(ha:s₁.heap.get? a=some {cls:=.type "list",data:=.seq vs.toArray})(hi:adQ vs ns)(hl:ns.length<=ZL)(hr:f9 k callerA)(F:∀base:acz,K.In base->base.Ns aaF mg->mP P w K mg base CX k fa fd [x] sp)(TQ:∀(s:Z5) (u:ZR),BindsTo s fd ⟨[u],[]⟩ [(x,u)])(N9:∀H:Hp,Kp H->fu K H a (ns.map V.int)->sp [.ref a] H (λv _=>v=.bl true) λ_ _ _=>False)(VR:∀H e s',CX [] H s₁ (λ_ _ _=>False) e s'->False) :
  codeAny (aan P w) callerA (.call (.ref fa) ⟨[.ref a],[]⟩) (λr s'=>r=.ok (.ret (.bool true))/\OldK s₁.heap s'.heap/\s'.os=s₁.os/\AllBare s'.gens) s₁:=by
 have rv:=pN hi;have VS:=hi.length;have TR:∀H:Hp,Kp H->fu K H a (ns.map V.int)->lB P w H s₁.heap->(∀b,H b≠none->b=a)->(H a≠none->K.lookup a=none)->
   codeAny (aan P w) callerA (.call (.ref fa) ⟨[.ref a],[]⟩) (λr s'=>r=.ok (.ret (.bool true))/\OldK s₁.heap s'.heap/\s'.os=s₁.os/\AllBare s'.gens) s₁:=by
  intro H hO hS hok hA hK;have Ew:∀{b:Z_} {o:Obj},s₁.heap.get? b=some o->H b=none->(xj s₁.heap H).get? b=some o:=λe n=>F3 e n;have TJ:∀{b:Z_} {o:Obj} {es:Array ady} {ep:Nat},s₁.heap.get? b=some o->o.data=.dict es ep->H b=none:=λ{b o es ep} e d=>by
   cases q:H b with
   |none=>rfl
   |some u=>
    have e':b=a:=hA b (by rw[q];simp);subst e';rw[ha] at e;cases e;have d':Data.seq vs.toArray _=Data.dict es ep:=d;cases d'
  have UN:∀{b:Z_} {m:Str->Option ZR},s₁.heap.Ns b m->(xj s₁.heap H).Ns b m:=λ{b m} ⟨o,es,ep,e,d,r⟩=>⟨o,es,ep,Ew e (TJ e d),d,r⟩;have Xb:K.In (xj s₁.heap H):=λb o e=>Ew (KX b o e) (by
   cases q:H b with
   |none=>rfl
   |some u=>
    have e':b=a:=hA b (by rw[q];simp);subst e';rw[hK (by rw[q];simp)] at e;cases e)
  have hM:Mod K mg (xj s₁.heap H):=⟨Xb,UN Xa,⟨mb,UN hb,Yb⟩,let ⟨mc,h1,h2⟩:=VQ;⟨mc,UN h1,h2⟩⟩;have e0:Kk P w K mg (xj s₁.heap H) callerA [] s₁ H:=⟨rfl,hM,λb o e=>J_ e,Nat.le_of_eq (ED _ _),trivial,λb hb=>absurd (show b∈([]:List Z_) from hb) (by simp),hok,.of_eq hg⟩;refine ad4 ((F _ Xb (UN Xa)).run callerA [] s₁ H ⟨[.ref a],[]⟩ [.ref a] [.ref a] _ _ hr e0 (TQ s₁ (.ref a)) (.cons rfl .nil) (N9 H hO hS)) λr s' h=>?_;cases r with
  |error e=>exact (VR H e s' h).elim
  |ok fl=>
   cases fl with
   |next=>exact acR h
   |brk=>exact acR h
   |cont=>exact acR h
   |ret u=>
    obtain⟨v,H',os,bare,un,hok',r',q⟩:=h;have q':v=.bl true:=q;subst q';obtain rfl:u=Value.bool true:=r';refine⟨rfl,OldK.of_keep λb o e=>?_,os,bare⟩;cases q:H b with
    |none=>exact un.keep b o e q (by intro z;exact absurd (show b∈([]:List Z_) from z) (by simp)) (by simp)
    |some u=>
     rcases hO b with z|⟨ob,xs,z⟩
     ·rw[q] at z;cases z
     ·have z2:=un.frzs b ob _ z;obtain⟨e1,_⟩:=hok b _ z;obtain⟨e2,_⟩:=hok' b _ z2;rw[e] at e1;cases e1;exact e2
 cases hk:K.lookup a with
 |some o=>
  have e:=KX a o hk;rw[ha] at e;cases e;refine TR (λ_=>none) (λ_=>.inl rfl) (.inr ⟨_,vs.toArray,_,hk,rfl,rfl,rfl,by rw[ZZ,VS];exact hl,by simpa using rv⟩) (λb u z=>by have z':(none:Option HO)=some u:=z;cases z') (λb z=>absurd rfl z) λz=>absurd rfl z
 |none=>
  refine TR (λb=>if b=a then some (.frz {cls:=.type "list",data:=.seq vs.toArray} (.lst (ns.map V.int))) else none) (λb=>?_) (.inl (.inr ⟨{cls:=.type "list",data:=.seq vs.toArray},hZ rfl⟩)) (λb u z=>?_) (λb z=>?_) λ_=>hk
  ·by_cases hb:b=a
   ·exact .inr ⟨_,_,hZ hb⟩
   ·exact .inl (hV hb)
  ·by_cases hb:b=a
   ·have z':=(hZ hb).symm.trans z;cases z';subst hb;exact⟨ha,by rw[ZF];exact hl,vs,_,rv,ha⟩
   ·have z':=(hV hb).symm.trans z;cases z'
  ·by_cases hb:b=a
   ·exact hb
   ·exact absurd (hV hb) z
end L2
namespace L2
theorem walk_of {l:PySem.W.OpenLaw}{d:DefRec}{K:Params->ZN}{CX:acs->CXT}{sp:acs->Sp}(hn:l.most=some n)(VT:n<=ZL)(TM:d.params.defaults=[])(hr:f9 k callerA)(hY:∀(w:acs) (h:acz),YP w h->(K w.params).In h)(F:∀(w:acs) (mg:Str->Option ZR) (fa:Z_) (h:acz),(K w.params).In h->h.Ns aaF mg->mg d.name=some (.ref fa)->
   ∃fd:aeh,(∀(s:Z5) (u:ZR),BindsTo s fd ⟨[u],[]⟩ [(x,u)])/\
    ∀base:acz,(K w.params).In base->base.Ns aaF mg->mP l.prog w (K w.params) mg base (CX w) k fa fd [x] (sp w))(N9:∀(w:acs) (H:Hp) (a:Z_) (ns:List Int),ns.length<=n->Kp H->fu (K w.params) H a (ns.map V.int)->sp w [.ref a] H (λv _=>v=.bl true) λ_ _ _=>False)(VR:∀(w:acs) (H:Hp) (s:Z5) (e:ZR) (s':Z5),CX w [] H s (λ_ _ _=>False) e s'->False) :
  PySem.W.WalkO q loose XP YP l.row.toRowW d [] (λf vs=>PySem.call f vs):=by
 refine Att.attach_call hn TM λw s₀ s₁ mg mb fa o pm cd pK a vs ns G Y ho hd ly TN QF JM nX hg=>?_;have KX:=hY w _ Y;obtain⟨fd,hb,hF⟩:=F w mg fa _ KX G.T.g TN;exact Gi KX G.T.g G.T.b G.T.builtins G.T.nolimit hg QF JM (aaP nX VT) hr hF hb (λH hO hS=>N9 w H a ns nX hO hS) λH e s'=>VR w H s₁ e s'
end L2
namespace L2
abbrev yY:CXT:=λ_ _ _ _ _ _=>False
abbrev E0:XK:=λ_ _ _=>False
theorem RD:Be yY X E0:=λ_ _ _ _ _ _ _ h=>h.elim
structure JY (K:ZN)(x qual:Str)(st:adh)(f:Z_)(fd:aeh):Prop where
 ex:∃(oc:ZR) (od:Option Z_) (kV pK pm:ZR) (an:Option Z_) (cQ ct:ZR) (N8:Array (Option ZR)),
  fd=abA x qual (gb st) (cP st) (ao st) .none kV pK pm an cQ ct/\K.lookup f=some ⟨oc,od,.func fd,N8⟩/\aeO K cQ qual=true
 kp:acA K (.ref f)=true
section
variable {base:acz}
theorem JY.ok (F:JY K x qual st f fd)(S:aN N ps (ao st))(len:∀vs H Q E,sp vs H Q E->vs.length=ps.length)(jq:∀(cQ:ZR) (A:aaC) (outer:List Env) (s:Z5) (H:Hp) (vs:List V) (Q:VK) (E:XK),f9 k (A.deeper (aeG qual (ao st) s.heap.objs.size f cQ))->sp vs H Q E->
   ∃t,vt (rA yY P w K mg base N qual (ao st) f cQ A outer s H E).nox (cP st) t/\t {nx:=λ_ H'=>Q .non H',rt:=Q} (adp N vs) H):mP P w K mg base yY (k+1) f fd ps sp:=by
 obtain⟨oc,od,kV,pK,pm,an,cQ,ct,N8,rfl,lk,ly⟩:=F.ex;refine Rx lk ly S len λA outer s H vs Q E hr N9=>?_;obtain⟨t,h,q⟩:=jq cQ A outer s H vs Q E hr N9;exact⟨t,h.nox,q⟩
theorem JY.binds (F:JY K x qual st f fd)(h:∀(kV pK pm:ZR) (an:Option Z_) (cQ ct:ZR) (us:List ZR),us.length=ps.length->bindArgs (abA x qual (gb st) (cP st) (ao st) .none kV pK pm an cQ ct) ⟨us,[]⟩=pure (ps.zip us)):vX K fd ps []:=by
 obtain⟨oc,od,kV,pK,pm,an,cQ,ct,N8,rfl,lk,ly⟩:=F.ex;exact .all (h kV pK pm an cQ ct)
theorem Gj {oc:ZR}{od an:Option Z_}{N8:Array (Option ZR)}{kV pK pm cQ ct:ZR}(l:K.lookup f=some ⟨oc,od,.func (abA x qual (gb st) (cP st) (ao st) .none kV pK pm an cQ ct),N8⟩)(c:aeO K cQ qual=true)(k:acA K (.ref f)=true):JY K x qual st f (abA x qual (gb st) (cP st) (ao st) .none kV pK pm an cQ ct):=⟨⟨oc,od,kV,pK,pm,an,cQ,ct,N8,rfl,l,c⟩,k⟩
end
theorem bG {A:aaC}(hr:f9 k A):A.units+1<abo:=abw (Nat.add_le_add_left (by decide:1<=64) _) hr.units
def aR (H H':Hp):Prop:=∀b o,H b=some o->H' b=some o
theorem aR.refl (H:Hp):aR H H:=λ_ _ h=>h
theorem aR.trans (a:aR H H1)(b:aR H1 H2):aR H H2:=λc o h=>b c o (a c o h)
theorem aR.seq (e:aR H H')(h:fu K H a xs):fu K H' a xs:=by
 rcases h with (h|⟨o,h⟩)|h
 ·exact .inl (.inl (e _ _ h))
 ·exact .inl (.inr ⟨o,e _ _ h⟩)
 ·exact .inr h
end L2
namespace L2
section
variable {κ:Type}[DecidableEq κ]
def rC (bb:List (κ×V))(k:κ):Option V:=(bb.find? λkv=>decide (kv.1=k)).map (·.2)
def og (bb:List (κ×V))(k:κ)(v:V):List (κ×V):=
 if (bb.any λkv=>decide (kv.1=k))=true then bb.map (λkv=>if kv.1=k then (kv.1,v) else kv) else bb++[(k,v)]
theorem oh {p:κ×V}{r:List (κ×V)}{k:κ}(e:p.1=k):rC (p::r) k=some p.2:=by simp[rC,aaX,e]
theorem oj {p:κ×V}{r:List (κ×V)}{k:κ}(e:¬p.1=k):rC (p::r) k=rC r k:=by simp[rC,aaX,e]
theorem yZ (k:κ):∀bb:List (κ×V),(bb.any λkv=>decide (kv.1=k))=(rC bb k).isSome
 | []=>rfl
 |p::r=>by
  rw[List.any_cons];by_cases e:p.1=k
  ·simp only[oh e,hG e,Bool.true_or,Option.isSome_some]
  ·rw[oj e,hJ e,Bool.false_or];exact yZ k r
theorem qw (bb:List (κ×V))(k:κ)(v:V):(og bb k v).length<=bb.length+1:=by
 unfold og;split
 ·rw[ZF];lia
 ·rw[Z3,Z0,abM];lia
theorem n9.isSome_eq {o:Option V}{u:Option ZR}(r:n9 o u):o.isSome=u.isSome:=by
 cases o with
 |none=>cases u with
  |none=>rfl
  |some _=>exact (show False from r).elim
 |some _=>cases u with
  |none=>exact (show False from r).elim
  |some _=>rfl
theorem n9.getD {o:Option V}{u:Option ZR}{d:V}{d':ZR}(r:n9 o u)(rd:aZ d d'):aZ (o.getD d) (u.getD d'):=by
 cases o with
 |none=>cases u with
  |none=>exact rd
  |some _=>exact (show False from r).elim
 |some _=>cases u with
  |none=>exact (show False from r).elim
  |some _=>exact r
theorem KV.val {bb:List (κ×V)}{vs:List (κ×ZR)}(r:KV bb vs)(k:κ):n9 (rC bb k) (valueAt vs k):=by
 unfold KV at r
 induction r with
 |nil=>exact True.intro
 | @cons p q ps qs h t ih=>
  obtain⟨h1,h2⟩:=h;by_cases e:p.1=k
  ·have e':q.1=k:=h1.symm.trans e;have b:valueAt (q::qs) k=some q.2:=by simp[valueAt,aaX,e']
   rw[oh e,b];exact h2
  ·have e':¬q.1=k:=λz=>e (h1.trans z);have b:valueAt (q::qs) k=valueAt qs k:=by simp[valueAt,aaX,e']
   rw[oj e,b];exact ih
theorem KV.any {bb:List (κ×V)}{vs:List (κ×ZR)}(r:KV bb vs)(k:κ):(bb.any λkv=>decide (kv.1=k))=vs.any λkv=>decide (kv.1=k):=by
 unfold KV at r
 induction r with
 |nil=>rfl
 |cons h t ih=>rw[List.any_cons,List.any_cons,ih,h.1]
theorem KV.repl {bb:List (κ×V)}{vs:List (κ×ZR)}(r:KV bb vs)(k:κ){u:ZR}(ry:aZ y u) :
  KV (bb.map λkv=>if kv.1=k then (kv.1,y) else kv) (vs.map λkv=>if kv.1=k then (kv.1,u) else kv):=by
 unfold KV at r ⊢
 induction r with
 |nil=>exact .nil
 | @cons p q ps qs h t ih=>
  rw[ZI,ZI];refine .cons ?_ ih;obtain⟨h1,h2⟩:=h;by_cases e:p.1=k
  ·rw[hZ e,hZ (h1.symm.trans e)];exact⟨h1,ry⟩
  ·rw[hV e,hV (λz=>e (h1.trans z))];exact⟨h1,h2⟩
theorem KV.put {bb:List (κ×V)}{vs:List (κ×ZR)}(r:KV bb vs)(k:κ){u:ZR}(ry:aZ y u):KV (og bb k y) (stored vs k u):=by
 unfold og stored;rw[r.any k];by_cases e:(vs.any λkv=>decide (kv.1=k))=true
 ·rw[hZ e,hZ e];exact r.repl k ry
 ·rw[hV e,hV e];exact Paired.snoc r ⟨rfl,ry⟩
theorem KV.length {bb:List (κ×V)}{vs:List (κ×ZR)}(r:KV bb vs):bb.length=vs.length:=adq r
end
theorem y0 {k:Key}{u:ZR}(r:aZ (kV k) u):(dJ P w).is k u=true:=by
 cases k with
 |inl i=>obtain⟨t,e⟩:=(show ∃t,u=Value.int i t from r);subst e;exact yP P w i t
 |inr x=>obtain⟨t,e⟩:=(show ∃t,u=Value.str x t from r);subst e;exact yQ P w x t
theorem v9 {P:acC}{w:acs}:∀{ks:List Key} {us:List ZR},bg (ks.map kV) us->ItemsAre (dJ P w) ks us
 | [],_,r=>by rw[aaI] at r;cases r;exact .nil
 |k::ks,_,r=>by
  rw[ZI] at r;cases r with
  |cons h t=>exact .cons (y0 h) (v9 t)
abbrev KT (H:Hp):List (List Key×V)->List (List Key×Z_×ZR)->Prop:=aeT λp q=>p.1=q.1/\H q.2.1=some (.tup (p.1.map kV))/\aZ p.2 q.2.2
theorem KT.val {xs:List (List Key×Z_×ZR)}(r:KT H bb xs)(k:List Key):n9 (rC bb k) ((atKey xs k).map (·.2)):=by
 induction r with
 |nil=>exact True.intro
 | @cons p q ps qs h t ih=>
  obtain⟨h1,_,h2⟩:=h;by_cases e:p.1=k
  ·have e':q.1=k:=h1.symm.trans e;have b:atKey (q::qs) k=some q.2:=by simp[atKey,aaX,e']
   rw[oh e,b];exact h2
  ·have e':¬q.1=k:=λz=>e (h1.trans z);have b:atKey (q::qs) k=atKey qs k:=by simp[atKey,aaX,e']
   rw[oj e,b];exact ih
theorem KT.repl {xs:List (List Key×Z_×ZR)}(r:KT H bb xs)(k:List Key){u:ZR}(ry:aZ y u) :
  KT H (bb.map λkv=>if kv.1=k then (kv.1,y) else kv) (xs.map (putAt k u)):=by
 induction r with
 |nil=>exact .nil
 | @cons p q ps qs h t ih=>
  rw[ZI,ZI];refine .cons ?_ ih;obtain⟨h1,h2,h3⟩:=h;unfold putAt;by_cases e:p.1=k
  ·rw[hZ e,hZ (h1.symm.trans e)];exact⟨h1,h2,ry⟩
  ·rw[hV e,hV (λz=>e (h1.trans z))];exact⟨h1,h2,h3⟩
theorem KT.put {xs:List (List Key×Z_×ZR)}(r:KT H bb xs)(k:List Key){u:ZR}(hb:H b=some (.tup (k.map kV)))(ry:aZ y u) :
  KT H (og bb k y) (storedH xs k b u):=by
 have e:(bb.any λkv=>decide (kv.1=k))=(atKey xs k).isSome:=by
  rw[yZ,(r.val k).isSome_eq,adS]
 unfold og storedH;rw[e];by_cases q:(atKey xs k).isSome=true
 ·rw[hZ q,hZ q];exact r.repl k ry
 ·rw[hV q,hV q];exact Paired.snoc r ⟨rfl,hb,ry⟩
theorem KT.keeps {xs:List (List Key×Z_×ZR)}(r:KT H bb xs)(ht:∀b ys,H b=some (.tup ys)->H' b=some (.tup ys)):KT H' bb xs:=
 Paired.mapP r λ_ _ z=>⟨z.1,ht _ _ z.2.1,z.2.2⟩
theorem MF {u:HO}(ok:lB P w H h)(e:Rd H a u):dH P w H h a u:=e.ok ok
theorem v_ {bb:List (Key×V)}(ok:lB P w H h)(e:Rd H a (.dK bb)):bb.length<=ZL/\(a==abC)=false/\∃vs,KV bb vs/\h.DictOf (dJ P w) a vs:=
 show dH P w H h a (.dK bb) from MF ok e
theorem RE {bb:List (Key×V)}(ok:lB P w H h)(e:H a=some (.dK bb)):bb.length<=ZL/\(a==abC)=false/\∃vs,KV bb vs/\h.DictOf (dJ P w) a vs:=v_ ok (.inl e)
theorem tj {ks:List Key}(ok:lB P w H h)(e:H a=some (.tup (ks.map kV))):(aeU (dJ P w)).is h ks a:=by
 obtain⟨_,aD,r,⟨o,h1,h2,n,h3⟩,_⟩:=(show dH P w H h a (.tup (ks.map kV)) from ok a _ e);exact⟨o,aD.toArray,n,h1,h2,h3,by simpa using v9 r⟩
theorem wa (ok:lB P w H h)(e:Rd H a (.dT bb)):bb.length<=ZL/\(a==abC)=false/\
  ∃xs,KT H bb xs/\h.DictOfH (aeU (dJ P w)) a xs:=by
 obtain⟨z,y,xs,r,o,es,ep,h1,h2,h3,h4,h5⟩:=(show dH P w H h a (.dT bb) from MF ok e);refine⟨z,y,xs,r,o,es,ep,h1,h2,h3,h4,λx hx=>?_,h5⟩;have all:∀{l:List (List Key×V)} {m:List (List Key×Z_×ZR)},KT H l m->∀x∈m,(aeU (dJ P w)).is h x.1 x.2.1:=by
  intro l m q
  induction q with
  |nil=>intro x hx;exact nomatch hx
  | @cons p q ps qs hq t ih=>
   intro x hx;rcases ZX.mp hx with e|hx
   ·subst e;exact tj ok (by rw[←hq.1];exact hq.2.1)
   ·exact ih x hx
 exact all r x hx
theorem RF (ok:lB P w H h)(e:H a=some (.dT bb)):bb.length<=ZL/\(a==abC)=false/\
  ∃xs,KT H bb xs/\h.DictOfH (aeU (dJ P w)) a xs:=wa ok (.inl e)
def Gk (H:Hp)(a:Z_)(y:V)(r:Option V):Prop:=
 (∃bb k,Rd H a (.dK bb)/\y=kV k/\r=rC bb k)\/∃bb k b,Rd H a (.dT bb)/\y=.ref b/\H b=some (.tup (k.map kV))/\r=rC bb k
def RG (H:Hp)(a:Z_)(y v:V)(H':Hp):Prop:=
 (∃bb k,H a=some (.dK bb)/\y=kV k/\bb.length<ZL/\H'=cH H a (.dK (og bb k v))) \/
 ∃bb k b,H a=some (.dT bb)/\y=.ref b/\H b=some (.tup (k.map kV))/\bb.length<ZL/\H'=cH H a (.dT (og bb k v))
section
variable {u r:ZR}{o:Option V}{A:aaC}
theorem aL.big (I:aL X pins σ H s):abC<s.heap.objs.size:=by
 have h:aaF<s.heap.objs.size:=(I.mod.glob.keeps I.bk).lt;exact acG (by decide) h
theorem EN (hu:A.units+1<abo)(I:aL X pins σ H s)(g:Gk H a y (some v))(ry:aZ y u)(h:∀w' s',aL X pins σ H s'->aZ v w'->Q w' s') :
  aac (aan X.prog X.w) A (getItem (.ref a) u) Q E s:=by
 rcases g with⟨bb,k,e,ey,l⟩|⟨bb,k,b,e,ey,eb,l⟩
 ·subst ey;obtain⟨z,hd,vs,rel,dd⟩:=v_ I.hok e;obtain⟨w',hw,CA⟩:=n9.some_of (v:=v) (o:=valueAt vs k) (by rw[l];exact rel.val k);exact wpAny_getItem_of (y0 ry) dd.mapOf hw (h w' _ (I.tok _) CA)
 ·subst ey;cases (show u=Value.ref b from ry);obtain⟨z,hd,xs,rel,dd⟩:=wa I.hok e;obtain⟨w',hw,CA⟩:=n9.some_of (v:=v) (o:=(atKey xs k).map (·.2)) (by rw[l];exact rel.val k);obtain⟨p,hp,yO⟩:=Option.map_eq_some_iff.mp hw;refine wpAny_getItem_heap (adz hu) (tj I.hok eb) dd hp ?_;rw[yO];exact h w' _ (I.tok _) CA
theorem Kq (hu:A.units+1<abo)(I:aL X pins σ H s)(g:Gk H a y o)(ry:aZ y u)(h:∀s',aL X pins σ H s'->Q (.bool (!o.isSome)) s') :
  aac (aan X.prog X.w) A (abK .NotIn u (.ref a)) Q E s:=by
 rcases g with⟨bb,k,e,ey,l⟩|⟨bb,k,b,e,ey,eb,l⟩
 ·subst ey;obtain⟨z,hd,vs,rel,dd⟩:=v_ I.hok e;refine wpAny_notIn_of (y0 ry) hd dd.mapOf ?_;rw[←(rel.val k).isSome_eq,←l];exact h _ (I.tok _)
 ·subst ey;cases (show u=Value.ref b from ry);obtain⟨z,hd,xs,rel,dd⟩:=wa I.hok e;refine wpAny_notIn_heap (adz hu) (tj I.hok eb) hd dd ?_;have q:=(rel.val k).isSome_eq;rw[adS] at q;rw[←q,←l];exact h _ (I.tok _)
theorem sv {t':Nat}{ob:HO}(I:aL X pins σ H s)(mu:QU (H a))(hs:aa0 a s.heap h')(he:∃q,h'.get? a=some q)(new:dH X.prog X.w (cH H a ob) h' a ob) :
  aL X pins σ (cH H a ob) {s with heap:=h',toks:=t'}:=
 I.write (x:=a) (e:=a) mu (.inl rfl) (λb q hb z=>(hs.2 b hb).trans z) he new
theorem OL {bb:List (Key×V)}{vs:List (Key×ZR)}(z:bb.length<=ZL)(hd:(a==abC)=false)(rel:KV bb vs)(dd:h'.DictOf (dJ P w) a vs) :
  dH P w H' h' a (.dK bb):=⟨z,hd,vs,rel,dd⟩
theorem EO {Q:Unit->Z5->Prop}(hu:A.units+1<abo)(I:aL X pins σ H s)(g:RG H a y v H')(ry:aZ y u)(rv:aZ v r)(h:∀s',aL X pins σ H' s'->Q () s') :
  aac (aan X.prog X.w) A (setItem (.ref a) u r) Q E s:=by
 rcases g with⟨bb,k,e,ey,l,eH⟩|⟨bb,k,b,e,ey,eb,l,eH⟩
 ·subst ey eH;obtain⟨z,hd,vs,rel,dd⟩:=RE I.hok e;have hz:vs.length<=ZL:=by rw[←rel.length];exact z
  have hl:(og bb k v).length<=ZL:=by have:=qw bb k v;lia
  refine wpAny_setItem_pairs (hsz:=hz) (y0 ry) dd λh' N_ hs=>h _ ?_;have he:∃q,h'.get? a=some q:=let ⟨q,_,_,hq,_⟩:=N_;⟨q,hq⟩
  exact sv I (by rw[e];exact True.intro) hs he (OL hl hd (rel.put k rv) N_)
 ·subst ey eH;cases (show u=Value.ref b from ry);obtain⟨z,hd,xs,rel,dd⟩:=RF I.hok e;have hz:xs.length<=ZL:=by rw[←adq rel];exact z
  have hl:(og bb k v).length<=ZL:=by have:=qw bb k v;lia
  refine wpAny_setItem_heap (hsz:=hz) (adz hu) (tj I.hok eb) dd λh' N_ hs=>h _ ?_;obtain⟨q,es,ep,hq,h2,h3,h4,_,h5⟩:=N_;refine sv I (by rw[e];exact True.intro) hs ⟨q,hq⟩ ⟨hl,hd,_,(rel.put k eb rv).keeps λc ys ec=>?_,q,es,ep,hq,h2,h3,h4,h5⟩;rw[a_ (Q7 ec e (λz=>nomatch z))];exact ec
end
def Kr (i:abH):Prop:=∀ov iv,subscripted i false ov iv=operate [ov,iv] (getItem ov iv)
theorem Ks {A:aaC}{value kr:abH}{pos:Pos}{T id:String}(hl:typeLookup (.type T) "__getitem__"=pure (some (.builtin id)))(hs:Kr kr)(h:aac (aan prog w) A (acD value env) (λo s₁=>aac (aan prog w) A (acD kr env) (λi s₂=>s₂.TypeIs o T/\aac (aan prog w) A (getItem o i) Q E s₂) E s₁) E s) :
  aac (aan prog w) A (acD (.Subscript value kr pos) env) Q E s:=by
 refine Subscript_ (aaM h (λo s₁ h₁=>aaM h₁ (λi s₂ h₂=>?_) λ_ _ x=>x) λ_ _ x=>x);obtain⟨hT,h₂⟩:=h₂;unfold subscriptTail;refine ZE ?_;rw[getitemInPython_of_ne hT.not_modules];refine ZE (acH hT hl ?_);have fin:aac (aan prog w) A (subscripted kr false o i) (λr s₃=>aac (aan prog w) A (letTemporaryGo value o r >>= λ_=>pure r) Q E s₃) E s₂:=by
  rw[hs o i];exact wpAny_operating (aaM h₂ (λr s₃ h₃=>ZE (wpAny_letTemporaryGo (ZJ h₃))) λ_ _ x=>x)
 first
  |exact ZJ (ZE fin)
  |exact ZE (ZJ (ZE fin))
  |exact ZE fin
theorem y8 {o:Option V}(I:aL X pins σ H s)(g:Gk H a y o):s.TypeIs (.ref a) "dict":=by
 rcases g with⟨bb,k,e,_,_⟩|⟨bb,k,b,e,_,_,_⟩
 ·obtain⟨_,_,vs,_,dd⟩:=v_ I.hok e;exact dd.typeIs
 ·obtain⟨_,_,xs,_,dd⟩:=wa I.hok e;exact dd.typeIs
theorem y9 (h:acz)(hb:abC<h.objs.size):dH P w H (h.push {cls:=.type "dict",data:=.dict #[]}) h.objs.size (.dK []):=
 ⟨abc _,beq_eq_false_iff_ne.mpr (Ne.symm (aah hb)),[],.nil,Heap.DictOf.new h⟩
def OM:TE:=λ_ H Q=>∀p,H p=none->Q (.ref p) (cH H p (.dK []))
section
variable {pos:Pos}
theorem Gn:PE X (.Dict [] [] pos) OM:=λpins s σ H Q I h=>
 wpAny_Dict_empty ⟨.ref s.heap.objs.size,_,I.laid (a:=s.heap.objs.size) (o:=.dK []) (t':=s.toks) (λ_ _ q=>ZP _ q) (ZS _) (y9 s.heap I.big),rfl,h _ (I.hok.fresh (ZS _))⟩
end
structure M1 (X:Cx)(o:abH)(m:Str)(eQ:Pos)(e:abH)(cpos:Pos):Prop where
 base:acV o m X.env (acD o X.env)=acD o X.env
 few:((abW cpos (Z8 [e] X.env)).all (λx=> !x.1)&&(backToKw cpos (adR [] X.env)).all (λx=>x.1.isSome)
  && decide (([e]:List abH).length+([]:List adu).length+(if ([]:List adu).isEmpty then 0 else 1)<30))=true
 line:(eQ.endLine==cpos.line)=true
 trees:abW cpos (Z8 [e] X.env)=[(false,acD e X.env)]
structure M2 (X:Cx)(o:abH)(m:Str)(eQ:Pos)(e f:abH)(cpos:Pos):Prop where
 base:acV o m X.env (acD o X.env)=acD o X.env
 few:((abW cpos (Z8 [e,f] X.env)).all (λx=> !x.1)&&(backToKw cpos (adR [] X.env)).all (λx=>x.1.isSome)
  && decide (([e,f]:List abH).length+([]:List adu).length+(if ([]:List adu).isEmpty then 0 else 1)<30))=true
 line:(eQ.endLine==cpos.line)=true
 trees:abW cpos (Z8 [e,f] X.env)=[(false,acD e X.env),(false,acD f X.env)]
def Wx (H:Hp)(a:Z_):Prop:=(∃bb,Rd H a (.dK bb))\/∃bb,Rd H a (.dT bb)
theorem ON (I:aL X pins σ H s)(d:Wx H a) :
  s.TypeIs (.ref a) "dict"/\(∀b,Value.ref a=.ref b->∃ob,s.heap.get? b=some ob/\ob.dict=none)/\(a==abC)=false:=by
 rcases d with⟨bb,e⟩|⟨bb,e⟩
 ·obtain⟨_,hd,vs,_,dd⟩:=v_ I.hok e;refine⟨dd.typeIs,λb q=>?_,hd⟩;cases q;obtain⟨ob,_,_,h1,h2,_⟩:=dd;exact⟨ob,h1,h2.2.1⟩
 ·obtain⟨_,hd,xs,_,dd⟩:=wa I.hok e;refine⟨dd.typeIs,λb q=>?_,hd⟩;cases q;obtain⟨ob,_,_,h1,h2,_⟩:=dd;exact⟨ob,h1,h2.2.1⟩
section
variable {d:V}{u r:ZR}{o:Option V}{A:aaC}
theorem OO (hu:A.units+1<abo)(I:aL X pins σ H s)(g:Gk H a y o)(ry:aZ y u)(rd:aZ d r)(h:∀w' s',aL X pins σ H s'->aZ (o.getD d) w'->Q w' s') :
  aac (aan X.prog X.w) A (call (.builtin "dict.get") [.ref a,u,r]) Q E s:=by
 rcases g with⟨bb,k,e,ey,l⟩|⟨bb,k,b,e,ey,eb,l⟩
 ·subst ey;obtain⟨z,hd,vs,rel,dd⟩:=v_ I.hok e;refine call_meetsIn acI dd.typeIs adL (adA _ _ _) (meets_dict_get_default (dJ X.prog X.w) a (y0 ry) hd r) ⟨_,dd.mapOf,h _ _ (I.tok _) ?_⟩;rw[l];exact (rel.val k).getD rd
 ·subst ey;cases (show u=Value.ref b from ry);obtain⟨z,hd,xs,rel,dd⟩:=wa I.hok e;refine call_meetsIn acI dd.typeIs adL (adA _ _ _) (meetsH_dict_get_default (aeU (dJ X.prog X.w)) a b hd r) ⟨adz hu,k,xs,tj I.hok eb,dd,h _ _ (I.tok _) ?_⟩;rw[l];exact (rel.val k).getD rd
end
end L2
namespace L2
end L2
namespace L2
theorem Bh (hf:∀x,(x,NameKind.free)∈scope.names->∃c,env.cells.lookup x=some c) :
  ∃cl:List (Str×Z_),closureFor scope env=pure cl/\(∀x c,cl.lookup x=some c->env.cells.lookup x=some c)/\∀x,(x,NameKind.free)∈scope.names->∃c,cl.lookup x=some c:=by
 have gen:∀(names:List (Str×adw)) (cs:List (Str×Z_)),(∀x,(x,NameKind.free)∈names->∃c,env.cells.lookup x=some c)->(∀x c,cs.lookup x=some c->env.cells.lookup x=some c)->
   ∃cl:List (Str×Z_),(forIn names cs λ(x:Str×adw) (r:List (Str×Z_))=>(match x with|(name,kind)=>if (kind==NameKind.free)=true then (do let a ←cellOf env name;pure (ForInStep.yield ((name,a)::r))) else pure (ForInStep.yield r):Sem (ForInStep (List (Str×Z_)))))=(pure cl:Sem _)/\
    (∀x c,cl.lookup x=some c->env.cells.lookup x=some c)/\(∀x c,cs.lookup x=some c->∃c',cl.lookup x=some c')/\∀x,(x,NameKind.free)∈names->∃c,cl.lookup x=some c:=by
  intro names
  induction names with
  |nil=>intro cs _ h;exact⟨cs,rfl,h,λx c e=>⟨c,e⟩,λx hx=>absurd hx (by simp)⟩
  |cons p r ih=>
   intro cs hn h;obtain⟨n,k⟩:=p;by_cases hk:k=NameKind.free
   ·subst hk;obtain⟨c,hc⟩:=hn n ZG;have h':∀x c',((n,c)::cs).lookup x=some c'->env.cells.lookup x=some c':=λx c' e=>by
     rw[aaA] at e;by_cases hx:x==n
     ·rw[hx] at e;have:x=n:=by simpa using hx
      subst this;cases e;exact hc
     ·rw[acW.mpr hx] at e;exact h x c' e
    obtain⟨cl,e1,e2,e3,e4⟩:=ih ((n,c)::cs) (λx hx=>hn x (ZK _ hx)) h';refine⟨cl,?_,e2,λx c' e=>?_,λx hx=>?_⟩
    ·rw[adB];have:cellOf env n=pure c:=by unfold cellOf;rw[hc]
     simp only[beq_self_eq_true,if_true,this];exact e1
    ·by_cases hx:x=n
     ·subst hx;exact e3 x c (by rw[aaA];simp)
     ·exact e3 x c' (by rw[aaA,show (x==n)=false from by simpa using hx];exact e)
    ·rcases ZX.mp hx with e|hx
     ·cases e;exact e3 n c (by rw[aaA];simp)
     ·exact e4 x hx
   ·obtain⟨cl,e1,e2,e3,e4⟩:=ih cs (λx hx=>hn x (ZK _ hx)) h;refine⟨cl,?_,e2,e3,λx hx=>?_⟩
    ·rw[adB];have:(k==NameKind.free)=false:=by simpa using hk
     simp only[this,aaq,if_false];exact e1
    ·rcases ZX.mp hx with e|hx
     ·cases e;exact absurd rfl hk
     ·exact e4 x hx
 obtain⟨cl,e1,e2,_,e4⟩:=gen scope.names [] hf (λx c e=>by simp at e);refine⟨cl,?_,e2,e4⟩;unfold closureFor;exact (congrArg (λm=>m >>= λr=>pure r) e1).trans rfl
structure sx where
 C:Z_
 s:Z5
 H:Hp
 fp:List Z_
 pins:List (Z_×Obj)
 cl:List (Str×Z_)
def MG (scope kC:aei):aei:=
 {scope with names:=scope.names.map λ(n,k)=>if (k==.free&&kC.kind==.function&&kC.names.lookup n==some .cell) then (n,.cell) else (n,k)}
structure Up (kC:aei)(NX:List Str)(scope:aei)(N:List Str)(js:List (Option Nat)):Prop where
 kind:scope.kind=.function
 nocell:∀y∈scope.names,y.2≠.cell
 loc:∀y∈scope.names,y.2=.local->scope.names.lookup y.1=some .local
 len:js.length=N.length
 cap:∀(i j:Nat) (x:Str),js[i]? = some (some j)->N[i]? = some x->NX[j]? = some x/\scope.names.lookup x=some .free
 free:∀x,(x,NameKind.free)∈scope.names->kC.names.lookup x=some .cell\/kC.names.lookup x=some .free
def lD (js:List (Option Nat))(σ:St):St:=js.map λo=>match o with
 |none=>none
 |some j=>match σ[j]? with
  |some v=>v
  |none=>none
theorem fw {env:Env}{x:Str}:∀{names:List (Str×adw)},names.lookup x=some .free->
  (names.map λ(n,k)=>if (k==NameKind.free&&env.scope.kind==.function&&env.kindOf n==some .cell) then (n,NameKind.cell) else (n,k)).lookup x=some .cell \/
  (names.map λ(n,k)=>if (k==NameKind.free&&env.scope.kind==.function&&env.kindOf n==some .cell) then (n,NameKind.cell) else (n,k)).lookup x=some .free
 | [],h=>by simp at h
 | (n,k)::r,h=>by
  rw[ZI];by_cases hx:x==n
  ·rw[aaA,hx] at h;cases h;by_cases c:(NameKind.free==NameKind.free&&env.scope.kind==.function&&env.kindOf n==some .cell)=true
   ·refine .inl ?_;show List.lookup x ((if (NameKind.free==NameKind.free&&env.scope.kind==.function&&env.kindOf n==some .cell)=true then (n,NameKind.cell) else (n,NameKind.free))::_)=_;rw[hZ c,aaA,hx]
   ·refine .inr ?_;show List.lookup x ((if (NameKind.free==NameKind.free&&env.scope.kind==.function&&env.kindOf n==some .cell)=true then (n,NameKind.cell) else (n,NameKind.free))::_)=_;rw[hV c,aaA,hx]
  ·have TU:=acW.mpr hx;rw[aaA,TU] at h;have ih:=fw (env:=env) (x:=x) (names:=r) h;have e:∀p:Str×adw,p.1=n->List.lookup x (p::(r.map λ(n,k)=>if (k==NameKind.free&&env.scope.kind==.function&&env.kindOf n==some .cell) then (n,NameKind.cell) else (n,k))) =
     List.lookup x (r.map λ(n,k)=>if (k==NameKind.free&&env.scope.kind==.function&&env.kindOf n==some .cell) then (n,NameKind.cell) else (n,k)):=λp hp=>by
    obtain⟨p1,p2⟩:=p;cases hp;rw[aaA,TU]
   rw[e _ (by dsimp only;split<;>rfl)];exact ih
def ER (X:Cx)(vg:List abH)(t:TT):Prop:=
 ∀(pins:List (Z_×Obj)) (s:Z5) (σ:St) (H:Hp) (Q:Bool->Hp->Prop),aL X pins σ H s->t σ H Q->
  aac (aan X.prog X.w) X.A (forIn vg true λc r=>if r=true then do let ok ←isTrue c X.env (acD c X.env);pure (ForInStep.yield ok) else pure (ForInStep.yield r)) (TP X pins σ Q) X.xe s
def Va:TT:=λ_ H Q=>Q true H
theorem Gp:ER X [] Va:=λ_ _ _ H _ I h=>wpAny_tests_nil ⟨H,I,h⟩
theorem Gq {t:TT}(h:PT X c t):ER X [c] t:=λpins s σ H Q I q=>wpAny_tests_one (h pins s σ H Q I q)
end L2
namespace L2
theorem lE {A:aaC}{R:Result->Z5->Prop}{qt:abH}{pos:Pos}{it bE:ZR}(I:Nat->Z5->Prop)(turn:∀n s,I n s->aac (aan prog w) A (adm it) (λr s₁=>match r with
   |none=>R (.ok .next) s₁
   |some v=>aac (aan prog w) A (aep qt it v) (λ_ Xc=>aac (aan prog w) A (ad3 qt env v) (λ_ s₂=>
     aac (aan prog w) A (forIn vg true λc r=>if r=true then do let ok ←isTrue c env (acD c env);pure (ForInStep.yield ok) else pure (ForInStep.yield r)) (λok s₃=>
      if ok=true then aac (aan prog w) A (acD elt env) (λx s₄=>
       aac (aan prog w) A (call (.builtin "list.append") [bE,x]) (λ_ s₅=>∃m,m<n/\I m s₅) (λ_ _=>False) s₄) (λ_ _=>False) s₃
      else ∃m,m<n/\I m s₃) (λ_ _=>False) s₂) (λ_ _=>False) Xc) (λ_ _=>False) s₁) (λ_ _=>False) s)(n:Nat)(h:I n s) :
  codeAny (aan prog w) A (.compLoop (.ListComp elt [⟨qt,iter,vg,0⟩] scope pos) 0 it bE env) R s:=by
 refine codeAny_loop rfl I (λn s hI=>?_) n h;show aac _ A ((compTurn (.ListComp elt [⟨qt,iter,vg,0⟩] scope pos) 0 it bE env).onRaise (λx=>do noteFrame x env;theTreesLotGoes x)) _ _ s;refine wpAny_noted ?_;rw[compTurn_list];have fe:∀{e:ZR} {s':Z5} {Z:Prop},(λ(_:ZR) (_:Z5)=>False) e s'->Z:=λh=>h.elim;refine ZE (wpAny_standAt (ZE (aaM (turn n s hI) (λr s₁ h₁=>?_) λ_ _ h'=>h'.elim)));cases r with
 |none=>exact ZJ h₁
 |some v=>
  refine ZE (aaM h₁ (λ_ Xc Yc=>?_) λ_ _ h'=>h'.elim);refine ZE (aaM Yc (λ_ s₂ h₂=>ZE (aaM h₂ (λok s₃ h₃=>?_) λ_ _ h'=>h'.elim)) λ_ _ h'=>h'.elim);cases ok with
  |false=>exact ZJ ⟨rfl,h₃⟩
  |true=>
   exact ZE (ZE (aaM h₃ (λx s₄ h₄=>ZE (aaM h₄ (λ_ s₅ h₅=>ZJ (ZJ ⟨rfl,h₅⟩)) λ_ _ h'=>h'.elim)) λ_ _ h'=>h'.elim))
def RH (J:It)(js:List (Option Nat))(g:sx->TG)(tt:sx->TT)(te:sx->TE)(σ:St)(H1:Hp)(P:List V->Hp->Prop):Prop:=
 ∀Y:sx,∃W:Nat->Nat->List V->Hp->Prop,(∃m,W 0 m [] H1)/\∀i m ys H2,W i m ys H2->
  (J.stop i H2/\P ys H2) \/
  (J.go i H2/\ys.length<ZL/\∃Nx:List V->Hp->Prop,(∀Ob H',Nx Ob H'->∃m',m'<m/\W (i+1) m' Ob H')/\∀x H3,J.yld i H2 x H3->g Y x (lD js σ) H3 λσ4 H4=>tt Y σ4 H4 λb H5=>
   if b=true then te Y σ4 H5 λy H6=>Nx (ys++[y]) H6 else Nx ys H5)
def Uq (wi:TI)(js:List (Option Nat))(g:sx->TG)(tt:sx->TT)(te:sx->TE):TE:=λσ H Q=>wi σ H λJ H1=>
 RH J js g tt te σ H1 λys H2=>∀p,H2 p=none->Q (.ref p) (cH H2 p (.lst ys))
def RI (J:It)(g:TG)(tb:TS)(D:nA)(σ:St)(H1:Hp):Prop:=∃W:Nat->Nat->St->Hp->Prop,(∃m,W 0 m σ H1)/\∀i m σ H,W i m σ H->
 (J.stop i H/\D.nx σ H)\/(J.go i H/\∃N:St->Hp->Prop,(∀σ' H',N σ' H'->∃m',m'<m/\W (i+1) m' σ' H')/\∀x H',J.yld i H x H'->g x σ H' λσ2 H2=>tb {D with nx:=N,ct:=N,bk:=D.nx} σ2 H2)
def RJ (wi:TI)(g:TG)(tb:TS):TS:=λD σ H=>wi σ H λJ H1=>RI J g tb D σ H1
theorem CQ {g:TG}{tb:TS}{pos:Pos}(hp:ae8 (aan X.prog X.w) X.A X.env X.xe)(hc:X.calm=true)(hi:PI X tg iter wi)(hg:PG X tg g)(hb:vt X body tb)(hs:∀x,abn iter X.env x=pure x:=by intro _;rfl):PS X (.For tg iter body [] pos) (RJ wi g tb):=Oz hp hc hi hg hb hs
end L2
namespace L2
inductive D where
 |non|bl (b:Bool)|int (i:Int)|str (x:Str)|tup (xs:List D)|lst (xs:List D)
instance:Inhabited D:=⟨.non⟩
mutual
def eB (K:ZN)(H:Hp):D->V->Prop
 | .non,v=>v=.non
 | .bl b,v=>v=.bl b
 | .int i,v=>v=.int i
 | .str x,v=>v=.str x
 | .tup ds,v=>∃a xs,v=.ref a/\iC K H a xs/\eX K H ds xs
 | .lst ds,v=>∃a xs,v=.ref a/\fu K H a xs/\eX K H ds xs
def eX (K:ZN)(H:Hp):List D->List V->Prop
 | [],xs=>xs=[]
 |d::ds,xs=>∃x r,xs=x::r/\eB K H d x/\eX K H ds r
end
mutual
def jA:D->D->Bool
 | .non,.non=>true
 | .bl a,.bl b=>a==b
 | .bl a,.int b=>(if a then 1 else 0)==b
 | .int a,.bl b=>a==(if b then 1 else 0)
 | .int a,.int b=>a==b
 | .str a,.str b=>a==b
 | .tup xs,.tup ys=>k7 xs ys
 | .lst xs,.lst ys=>k7 xs ys
 |_,_=>false
def k7:List D->List D->Bool
 | [],[]=>true
 |x::xs,y::ys=>jA x y&&k7 xs ys
 |_,_=>false
end
mutual
def eY:D->Nat
 | .tup xs=>i_ xs+1
 | .lst xs=>i_ xs+1
 |_=>0
def i_:List D->Nat
 | []=>0
 |x::xs=>max (eY x) (i_ xs)
end
theorem eX.length {K:ZN}{H:Hp}:∀{ds:List D} {xs:List V},eX K H ds xs->ds.length=xs.length
 | [],_,h=>by unfold eX at h;subst h;rfl
 |d::ds,_,h=>by
  unfold eX at h;obtain⟨x,r,rfl,_,q⟩:=h;rw[Z0,Z0,eX.length q]
theorem eX.get {K:ZN}{H:Hp}:∀{ds:List D} {xs:List V} {i:Nat} {d:D} {x:V},eX K H ds xs->ds[i]? = some d->xs[i]? = some x->eB K H d x
 | [],_,_,_,_,_,e,_=>by simp at e
 |d::ds,_,i,d',x',h,e1,e2=>by
  unfold eX at h;obtain⟨x,r,rfl,p,q⟩:=h;cases i with
  |zero=>simp at e1 e2;subst e1 e2;exact p
  |succ i=>exact eX.get q (by simpa using e1) (by simpa using e2)
theorem pO:∀{ds:List D} {i:Nat} {d:D},ds[i]? = some d->eY d<=i_ ds
 | [],_,_,e=>by simp at e
 |d::ds,i,d',e=>by
  unfold i_;cases i with
  |zero=>simp at e;subst e;exact Nat.le_max_left _ _
  |succ i=>exact aaP (pO (ds:=ds) (by simpa using e)) (Nat.le_max_right _ _)
def om (xs ys:List D)(j:Nat):Bool:=match xs[j]?,ys[j]? with
 |some a,some b=>jA a b
 |_,_=>true
theorem oo:∀(xs ys:List D),((ZU (min xs.length ys.length)).all (om xs ys)&&xs.length==ys.length)=k7 xs ys
 | [],[]=>by simp[k7]
 | [],_::_=>by simp[k7]
 |_::_,[]=>by simp[k7]
 |x::xs,y::ys=>by
  have ih:=oo xs ys;unfold k7;rw[←ih,Z0,Z0,Nat.add_min_add_right,adM,acu,List.all_map];have e0:om (x::xs) (y::ys) 0=jA x y:=rfl;have e1:(om (x::xs) (y::ys)∘Nat.succ)=om xs ys:=by funext j;simp[om,Function.comp]
  rw[e0,e1,Bool.and_assoc];congr 1;congr 1;rw[aaw];simp
theorem Gs {xs ys:List D}(h:xs.length≠ys.length):k7 xs ys=false:=by
 rw[←oo,show (xs.length==ys.length)=false from by simpa using h,ac5]
mutual
theorem oq:∀d:D,jA d d=true
 | .non=>rfl
 | .bl b=>by unfold jA;simp
 | .int b=>by unfold jA;simp
 | .str b=>by unfold jA;simp
 | .tup xs=>by unfold jA;exact pP xs
 | .lst xs=>by unfold jA;exact pP xs
theorem pP:∀ds:List D,k7 ds ds=true
 | []=>rfl
 |d::ds=>by unfold k7;rw[oq d,pP ds];rfl
end
theorem RK {ys:List V}(I:aL X pins σ H s)(h:fu X.K H a xs)(h':iC X.K H a ys):False:=by
 obtain⟨aD,_,p,_⟩:=I.list h;obtain⟨its',_,q,_⟩:=I.tuple h';exact absurd rfl (SeqAt.ne_of_list_tuple p.isList q)
theorem y_ (I:aL X pins σ H s):∀n d1 d2 x,eY d1<=n->eB X.K H d1 x->eB X.K H d2 x->jA d1 d2=true:=by
 have lists:∀n,(∀d1 d2 x,eY d1<=n->eB X.K H d1 x->eB X.K H d2 x->jA d1 d2=true)->∀(ds es:List D) (xs:List V),i_ ds<=n->eX X.K H ds xs->eX X.K H es xs->k7 ds es=true:=by
  intro n ih ds
  induction ds with
  |nil=>
   intro es xs _ h1 h2;unfold eX at h1;subst h1;cases es with
   |nil=>rfl
   |cons e es=>unfold eX at h2;obtain⟨x,r,e',_⟩:=h2;cases e'
  |cons d ds ihd=>
   intro es xs hd h1 h2;unfold eX at h1;obtain⟨x,r,rfl,p,q⟩:=h1;cases es with
   |nil=>unfold eX at h2;cases h2
   |cons e es=>
    unfold eX at h2;obtain⟨x',r',e',p',q'⟩:=h2;cases e';unfold i_ at hd;unfold k7;rw[ih d e x (aaP (Nat.le_max_left _ _) hd) p p',ihd es r (aaP (Nat.le_max_right _ _) hd) q q'];rfl
 intro n
 induction n with
 |zero=>
  intro d1 d2 x hd h1 h2;have fl:∀d,eB X.K H d x->(∃a,x=.ref a)\/(d=.non/\x=.non)\/(∃b,d=.bl b/\x=.bl b)\/(∃b,d=.int b/\x=.int b)\/∃b,d=.str b/\x=.str b:=λd h=>by
   cases d with
   |non=>unfold eB at h;exact .inr (.inl ⟨rfl,h⟩)
   |bl b=>unfold eB at h;exact .inr (.inr (.inl ⟨b,rfl,h⟩))
   |int b=>unfold eB at h;exact .inr (.inr (.inr (.inl ⟨b,rfl,h⟩)))
   |str b=>unfold eB at h;exact .inr (.inr (.inr (.inr ⟨b,rfl,h⟩)))
   |tup ds=>unfold eB at h;obtain⟨a,_,e,_⟩:=h;exact .inl ⟨a,e⟩
   |lst ds=>unfold eB at h;obtain⟨a,_,e,_⟩:=h;exact .inl ⟨a,e⟩
  have nr:¬∃a,x=.ref a:=λh00=>by
   obtain⟨a,e⟩:=h00;subst e;cases d1 with
   |tup ds=>unfold eY at hd;lia
   |lst ds=>unfold eY at hd;lia
   |_=>unfold eB at h1;cases h1
  have f1:=fl d1 h1;have f2:=fl d2 h2;rcases f1 with f1|⟨rfl,rfl⟩|⟨b,rfl,rfl⟩|⟨b,rfl,rfl⟩|⟨b,rfl,rfl⟩
  ·exact absurd f1 nr
  all_goals
   rcases f2 with f2|⟨rfl,f2⟩|⟨c,rfl,f2⟩|⟨c,rfl,f2⟩|⟨c,rfl,f2⟩
   ·exact absurd f2 nr
   all_goals first|(cases f2;exact oq _)|cases f2
 |succ n ih=>
  intro d1 d2 x hd h1 h2;cases d1 with
  |tup ds=>
   unfold eB at h1;obtain⟨a,xs,rfl,hs,hr⟩:=h1;cases d2 with
   |tup es=>
    unfold eB at h2;obtain⟨a',xs',e,hs',hr'⟩:=h2;cases e;have:=I.tuple_inj hs hs';subst this;unfold jA;exact lists n ih ds es xs (by unfold eY at hd;lia) hr hr'
   |lst es=>
    unfold eB at h2;obtain⟨a',xs',e,hs',hr'⟩:=h2;cases e;exact (RK I hs' hs).elim
   |_=>unfold eB at h2;cases h2
  |lst ds=>
   unfold eB at h1;obtain⟨a,xs,rfl,hs,hr⟩:=h1;cases d2 with
   |lst es=>
    unfold eB at h2;obtain⟨a',xs',e,hs',hr'⟩:=h2;cases e;have:=I.list_inj hs hs';subst this;unfold jA;exact lists n ih ds es xs (by unfold eY at hd;lia) hr hr'
   |tup es=>
    unfold eB at h2;obtain⟨a',xs',e,hs',hr'⟩:=h2;cases e;exact (RK I hs hs').elim
   |_=>unfold eB at h2;cases h2
  |_=>exact ih _ d2 x (by unfold eY;exact abc _) h1 h2
inductive OP (K:ZN)(H:Hp)(s:Z5):D->V->ZR->Prop
 |non:OP K H s .non .non .none
 |bl (b:Bool):OP K H s (.bl b) (.bl b) (.bool b)
 |int (i:Int) (t:Tok):OP K H s (.int i) (.int i) (.int i t)
 |str (x:Str) (t:Tok):OP K H s (.str x) (.str x) (.str x t)
 |tup {ds:List D} {a:Z_} {xs:List V} {aD:List ZR} (hs:iC K H a xs) (hr:eX K H ds xs) (rv:bg xs aD) (p:IsTup s.heap a aD.toArray):OP K H s (.tup ds) (.ref a) (.ref a)
 |lst {ds:List D} {a:Z_} {xs:List V} {aD:List ZR} (hs:fu K H a xs) (hr:eX K H ds xs) (rv:bg xs aD) (p:s.heap.IsList a aD.toArray):OP K H s (.lst ds) (.ref a) (.ref a)
theorem Ur (I:aL X pins σ H s):∀{d:D} {x:V} {u:ZR},eB X.K H d x->aZ x u->OP X.K H s d x u:=by
 intro d x u h r;cases d<;>unfold eB at h
 case tup=>obtain⟨a,xs,rfl,hs,hr⟩:=h;cases r;obtain⟨aD,rv,p,_⟩:=I.tuple hs;exact .tup hs hr rv p
 case lst=>obtain⟨a,xs,rfl,hs,hr⟩:=h;cases r;obtain⟨aD,rv,p,_⟩:=I.list hs;exact .lst hs hr rv p.isList
 all_goals subst h
 case non=>cases r;exact .non
 case bl=>cases r;exact .bl _
 case int=>obtain⟨t,rfl⟩:=r;exact .int _ _
 case str=>obtain⟨t,rfl⟩:=r;exact .str _ _
section
variable {A:aaC}{ds es:List D}{a1 a2:Z_}{J1 J2:List V}{i1 i2:List ZR}
theorem CS (v1:bg J1 i1)(v2:bg J2 i2)(r1:eX X.K H ds J1)(r2:eX X.K H es J2)(f:∀(j:Nat) (d e:D) (x y:V) (u v:ZR),ds[j]? = some d->eB X.K H d x->eB X.K H e y->aZ x u->aZ y v->acX A s u v (jA d e)) :
  ∀j (h1:j<i1.toArray.size) (h2:j<i2.toArray.size),acX A s i1.toArray[j] i2.toArray[j] (om ds es j):=λj g1 g2=>by
 have l1:=v1.length;have l2:=v2.length;have k1:=r1.length;have k2:=r2.length;rw[ZZ] at g1 g2;have q1:ds[j]? = some ds[j]:=ZH (by lia);have q2:es[j]? = some es[j]:=ZH (by lia);have e1:J1[j]? = some J1[j]:=ZH (by lia);have e2:J2[j]? = some J2[j]:=ZH (by lia);obtain⟨u1,z1,w1⟩:=v1.get e1;obtain⟨u2,z2,w2⟩:=v2.get e2;have y1:i1.toArray[j]=u1:=by obtain⟨_,q⟩:=ZQ.mp z1;simpa using q
 have y2:i2.toArray[j]=u2:=by obtain⟨_,q⟩:=ZQ.mp z2;simpa using q
 have:om ds es j=jA ds[j] es[j]:=by unfold om;rw[q1,q2]
 rw[y1,y2,this];exact f j _ _ _ _ _ _ q1 (r1.get q1 e1) (r2.get q2 e2) w1 w2
variable (v1:bg J1 i1)(v2:bg J2 i2)(r1:eX X.K H ds J1)(r2:eX X.K H es J2)(hu:A.units<abo)(he:∀j (h1:j<i1.toArray.size) (h2:j<i2.toArray.size),acX A.in1 s i1.toArray[j] i2.toArray[j] (om ds es j))
include v1 v2 r1 r2 hu he
theorem Gu:i1.toArray.size=ds.length/\i2.toArray.size=es.length:=by rw[ZZ,ZZ,←v1.length,←v2.length,r1.length,r2.length];exact⟨rfl,rfl⟩
theorem Gv (p1:IsTup s.heap a1 i1.toArray)(p2:IsTup s.heap a2 i2.toArray):SeqAt.RcAt A s (.ref a1) (.ref a2) (jA (.tup ds) (.tup es)):=by
 have q:=SeqAt.RcAt.tuples (A:=A) p1 p2 hu he;rw[(Gu v1 v2 r1 r2 hu he).1,(Gu v1 v2 r1 r2 hu he).2,oo] at q;unfold jA;exact q
theorem Gw (p1:s.heap.IsList a1 i1.toArray)(p2:s.heap.IsList a2 i2.toArray):SeqAt.RcAt A s (.ref a1) (.ref a2) (jA (.lst ds) (.lst es)):=by
 obtain⟨l1,l2⟩:=Gu v1 v2 r1 r2 hu he;unfold jA;by_cases hl:ds.length=es.length
 ·have q:=SeqAt.RcAt.lists (A:=A) p1 p2 (by rw[l1,l2,hl]) hu he;have z:=oo ds es;rw[hl,Nat.min_self,beq_self_eq_true,Bool.and_true] at z;rw[l1,hl,z] at q;exact q
 ·rw[Gs hl];exact SeqAt.RcAt.lists_lengths (A:=A) p1 p2 (by rw[l1,l2];simpa using hl) hu
end
theorem Gx (I:aL X pins σ H s):∀(n:Nat) (d1 d2:D) (x y:V) (u v:ZR) (A:aaC),eY d1<=n->A.units+n<abo->eB X.K H d1 x->eB X.K H d2 y->aZ x u->aZ y v->acX A s u v (jA d1 d2):=by
 intro n
 induction n using Nat.strongRecOn with|ind n ih=>
 intro d1 d2 x y u v A hd hu h1 h2 r1 r2;have gG:A.units<abo:=by lia
 have hi:∀{ds:List D} {j:Nat} {d e:D} {x y:V} {u v:ZR},i_ ds+1<=n->ds[j]? = some d->eB X.K H d x->eB X.K H e y->aZ x u->aZ y v->acX A.in1 s u v (jA d e):=λ{ds j d e x y u v} hn q a b c d'=>ih (n-1) (by lia) _ _ _ _ _ _ A.in1 (by have:=pO q;lia) (by show A.units+1+(n-1)<abo;lia) a b c d';cases Ur I h1 r1<;>cases Ur I h2 r2
 ·exact aer _
 ·exact SeqAt.EqAt.none_bool _
 ·exact SeqAt.EqAt.none_int _ _
 ·exact SeqAt.EqAt.none_str _ _
 ·exact SeqAt.EqAt.none_tuple ‹_› gG
 ·exact SeqAt.EqAt.none_list ‹_› gG
 ·exact SeqAt.EqAt.bool_none _
 ·exact SeqAt.EqAt.bool_bool _ _
 ·exact SeqAt.EqAt.bool_int _ _ _
 ·exact SeqAt.EqAt.bool_str _ _ _
 ·exact SeqAt.EqAt.bool_tuple _ ‹_› gG
 ·exact SeqAt.EqAt.bool_list _ ‹_› gG
 ·exact SeqAt.EqAt.int_none _ _
 ·exact SeqAt.EqAt.int_bool _ _ _
 ·exact SeqAt.EqAt.int_int _ _ _ _
 ·exact SeqAt.EqAt.int_str _ _ _ _
 ·exact SeqAt.EqAt.int_tuple _ _ ‹_› gG
 ·exact SeqAt.EqAt.int_list _ _ ‹_› gG
 ·exact SeqAt.EqAt.str_none _ _
 ·exact SeqAt.EqAt.str_bool _ _ _
 ·exact SeqAt.EqAt.str_int _ _ _ _
 ·exact SeqAt.EqAt.str_str _ _ _ _
 ·exact SeqAt.EqAt.str_tuple _ _ ‹_› gG
 ·exact SeqAt.EqAt.str_list _ _ ‹_› gG
 ·exact SeqAt.EqAt.tuple_none ‹_› gG
 ·exact SeqAt.EqAt.tuple_bool _ ‹_› gG
 ·exact SeqAt.EqAt.tuple_int _ _ ‹_› gG
 ·exact SeqAt.EqAt.tuple_str _ _ ‹_› gG
 ·rename_i ds a1 J1 i1 VU JN JO p1 es a2 J2 i2 yM Cv JP p2;by_cases xi:a1=a2
  ·subst xi;rw[y_ I n _ _ _ hd h1 h2];exact aer _
  ·exact aeH xi (Gv JO JP JN Cv gG (CS JO JP JN Cv λ_ _ _ _ _ _ _ q=>hi (by unfold eY at hd;lia) q) p1 p2)
 ·exact SeqAt.EqAt.tuple_list ‹_› ‹_› gG
 ·exact SeqAt.EqAt.list_none ‹_› gG
 ·exact SeqAt.EqAt.list_bool _ ‹_› gG
 ·exact SeqAt.EqAt.list_int _ _ ‹_› gG
 ·exact SeqAt.EqAt.list_str _ _ ‹_› gG
 ·exact SeqAt.EqAt.list_tuple ‹_› ‹_› gG
 ·rename_i ds a1 J1 i1 VU JN JO p1 es a2 J2 i2 yM Cv JP p2;by_cases xi:a1=a2
  ·subst xi;rw[y_ I n _ _ _ hd h1 h2];exact aer _
  ·exact aeH xi (Gw JO JP JN Cv gG (CS JO JP JN Cv λ_ _ _ _ _ _ _ q=>hi (by unfold eY at hd;lia) q) p1 p2)
theorem OQ (I:aL X pins σ H s)(n:Nat)(d1 d2:D)(x y:V)(u v:ZR)(A:aaC)(hd:eY d1<=n)(hu:A.units+n<abo)(h1:eB X.K H d1 x)(h2:eB X.K H d2 y)(r1:aZ x u)(r2:aZ y v):SeqAt.RcAt A s u v (jA d1 d2):=by
 have gG:A.units<abo:=by lia
 have hi:∀{ds:List D} {j:Nat} {d e:D} {x y:V} {u v:ZR},i_ ds+1<=n->ds[j]? = some d->eB X.K H d x->eB X.K H e y->aZ x u->aZ y v->acX A.in1 s u v (jA d e):=λ{ds j d e x y u v} hn q a b c d'=>Gx I (n-1) _ _ _ _ _ _ A.in1 (by have:=pO q;lia) (by show A.units+1+(n-1)<abo;lia) a b c d';cases Ur I h1 r1<;>cases Ur I h2 r2
 ·exact SeqAt.RcAt.none_none
 ·exact SeqAt.RcAt.none_bool _
 ·exact SeqAt.RcAt.none_int _ _
 ·exact SeqAt.RcAt.none_str _ _
 ·exact SeqAt.RcAt.none_tuple ‹_› gG
 ·exact SeqAt.RcAt.none_list ‹_› gG
 ·exact SeqAt.RcAt.bool_none _
 ·exact SeqAt.RcAt.bool_bool _ _
 ·exact SeqAt.RcAt.bool_int _ _ _
 ·exact SeqAt.RcAt.bool_str _ _ _
 ·exact SeqAt.RcAt.bool_tuple _ ‹_› gG
 ·exact SeqAt.RcAt.bool_list _ ‹_› gG
 ·exact SeqAt.RcAt.int_none _ _
 ·exact SeqAt.RcAt.int_bool _ _ _
 ·exact SeqAt.RcAt.int_int _ _ _ _
 ·exact SeqAt.RcAt.int_str _ _ _ _
 ·exact SeqAt.RcAt.int_tuple _ _ ‹_› gG
 ·exact SeqAt.RcAt.int_list _ _ ‹_› gG
 ·exact SeqAt.RcAt.str_none _ _
 ·exact SeqAt.RcAt.str_bool _ _ _
 ·exact SeqAt.RcAt.str_int _ _ _ _
 ·exact SeqAt.RcAt.str_str _ _ _ _
 ·exact SeqAt.RcAt.str_tuple _ _ ‹_› gG
 ·exact SeqAt.RcAt.str_list _ _ ‹_› gG
 ·exact SeqAt.RcAt.tuple_none ‹_› gG
 ·exact SeqAt.RcAt.tuple_bool _ ‹_› gG
 ·exact SeqAt.RcAt.tuple_int _ _ ‹_› gG
 ·exact SeqAt.RcAt.tuple_str _ _ ‹_› gG
 ·rename_i ds a1 J1 i1 VU JN JO p1 es a2 J2 i2 yM Cv JP p2;exact Gv JO JP JN Cv gG (CS JO JP JN Cv λ_ _ _ _ _ _ _ q=>hi (by unfold eY at hd;lia) q) p1 p2
 ·exact SeqAt.RcAt.tuple_list ‹_› ‹_› gG
 ·exact SeqAt.RcAt.list_none ‹_› gG
 ·exact SeqAt.RcAt.list_bool _ ‹_› gG
 ·exact SeqAt.RcAt.list_int _ _ ‹_› gG
 ·exact SeqAt.RcAt.list_str _ _ ‹_› gG
 ·exact SeqAt.RcAt.list_tuple ‹_› ‹_› gG
 ·rename_i ds a1 J1 i1 VU JN JO p1 es a2 J2 i2 yM Cv JP p2;exact Gw JO JP JN Cv gG (CS JO JP JN Cv λ_ _ _ _ _ _ _ q=>hi (by unfold eY at hd;lia) q) p1 p2
def RL (K:ZN)(f:Bool->Bool):R2:=λx y H Q=>∃d1 d2,eB K H d1 x/\eB K H d2 y/\eY d1<=30/\Q (.bl (f (jA d1 d2))) H
theorem OR (hu:X.A.units+64<abo):lC X (abK .Eq) (RL X.K id):=by
 intro pins s σ H x y v u Q I rx ry h;obtain⟨d1,d2,h1,h2,hd,q⟩:=h;exact OQ I 30 d1 d2 x y v u X.A hd (by lia) h1 h2 rx ry X.prog X.w X.xe _ ⟨.bl _,H,I,rfl,q⟩
end L2
variable {dx:L2.D}
namespace L2
def jF (n m:String):Bool:=(n==m)||(n=="bool"&&m=="int")
inductive Kt (K:ZN)(H:Hp):V->String->Prop where
 |non:Kt K H .non "NoneType"
 |bl (x:Bool):Kt K H (.bl x) "bool"
 |int (i:Int):Kt K H (.int i) "int"
 |str (x:Str):Kt K H (.str x) "str"
 |lst {a:Z_} {xs:List V} (e:H a=some (.lst xs)):Kt K H (.ref a) "list"
 |frz {a:Z_} {o:Obj} {xs:List V} (e:H a=some (.frz o (.lst xs))):Kt K H (.ref a) "list"
 |tup {a:Z_} {xs:List V} (e:H a=some (.tup xs)):Kt K H (.ref a) "tuple"
 |dK {a:Z_} {bb:List (Key×V)} (e:H a=some (.dK bb)):Kt K H (.ref a) "dict"
 |dT {a:Z_} {bb:List (List Key×V)} (e:H a=some (.dT bb)):Kt K H (.ref a) "dict"
theorem qx:fB X (.type "range") (λxs H Q=>∃j,xs=[.int j]/\∀p,H p=none->Q (.ref p) (cH H p (.rng 0 j))):=by
 intro pins s σ H xs us Q I r h;obtain⟨j,rfl,q⟩:=h;obtain⟨u,rfl,rx⟩:=jE r;obtain⟨t,rfl⟩:=rx;refine call_range_1 ⟨.ref s.heap.objs.size,cH H s.heap.objs.size (.rng 0 j),I.laid (λb u e=>ZP _ e) (ZS _) ?_,rfl,q _ (I.hok.fresh (ZS _))⟩;exact⟨_,_,_,ZW _ rfl⟩
theorem tm {a:Int}{bE:Array ZR}(h:ItemsOf (λi v=>∃t,v=Value.int (a+i*1) t) bE n):bg ((ZU n).map λi=>V.int (a+(i:Nat))) bE.toList:=by
 obtain⟨hs,hi⟩:=h;have gen:∀(l:List ZR) (k:Nat),(∀(i:Nat) v,l[i]? = some v->∃t,v=Value.int (a+((k+i:Nat):Int)*1) t)->bg ((List.range' k l.length).map λi=>V.int (a+(i:Nat))) l:=by
  intro l
  induction l with
  |nil=>intro k _;exact .nil
  |cons v r ih=>
   intro k hk;rw[Z0,List.range'_succ,ZI];refine .cons ?_ (ih (k+1) λi v e=>?_)
   ·obtain⟨t,e⟩:=hk 0 v rfl;exact⟨t,by rw[e];simp⟩
   ·obtain⟨t,e'⟩:=hk (i+1) v (by simpa using e);refine⟨t,?_⟩;rw[e',show k+(i+1)=k+1+i by lia]
 have q:=gen bE.toList 0 (λi v e=>by
  obtain⟨t,e'⟩:=hi i v (by simpa using e);exact⟨t,by rw[e',abd]⟩)
 rw[aao,hs] at q;rw[List.range_eq_range'];exact q
theorem vu (hc:X.calm=true):fB X (.type "list") (λxs H Q=>∃p lo hi,xs=[.ref p]/\H p=some (.rng lo hi)/\(-(2 ^ 62)<=lo/\lo<2 ^ 62/\ -(2 ^ 62)<=hi/\hi<2 ^ 62)/\(hi-lo).toNat<=2 ^ 20/\
  ∀l,H l=none->Q (.ref l) (cH H l (.lst ((ZU (hi-lo).toNat).map λi=>V.int (lo+(i:Nat)))))):=by
 intro pins s σ H xs us Q I r h;obtain⟨p,lo,hi,rfl,hp,⟨h1,h2,h3,h4⟩,hz,q⟩:=h;obtain⟨u,rfl,rx⟩:=jE r;cases rx;obtain⟨t,u,v,e⟩:=I.hok p _ hp;refine call_list_range (n:=(hi-lo).toNat) (I.ok.hd hc) (c:=1) (show IsRange s.heap p lo hi 1 t u v from e) (small_one h1 h2 h3 h4) (by rw[rangeSize_one];split<;>lia) (by lia) λh' tk QG c' hk QH r_=>?_;have hl:((ZU (hi-lo).toNat).map λi=>V.int (lo+(i:Nat))).length<=ZL:=by
  rw[ZF,aaa,abv];lia
 refine⟨.ref s.heap.objs.size,_,I.laid hk (ZS _) (show dH X.prog X.w _ _ _ (.lst _) from ⟨hl,QG.toList,c',tm r_,by simpa using QH⟩),rfl,q _ (I.hok.fresh (ZS _))⟩
def Gy (i j:Int):Prop:=0<j/\j<18446744073709551616
theorem Bi (h:n<18446744073709551616):n.log2<9000:=by
 by_cases h0:n=0
 ·subst h0;decide
 ·have:=(Nat.log2_lt h0 (k:=64)).mpr (by lia);lia
theorem i4:lC X (acS .FloorDiv) (rI Gy λi j=>.int (i / j)):=Uo λi j _ _ _ _ _ hc q=>by
 refine floordiv_int (by have:=hc.1;lia) ?_ (.inl (PyProof.noPylong_of_log2 (Bi (by have:=hc.1;have:=hc.2;lia))));rw[Int.fdiv_eq_ediv_of_nonneg _ (by have:=hc.1;lia)];exact q
theorem CT:aaO "list"=some (.type "list"):=by decide+kernel
theorem c9:aaO "tuple"=some (.type "tuple"):=by decide+kernel
theorem za:aaO "range"=some (.type "range"):=by decide+kernel
theorem gc:aaO "len"=some (.builtin "len"):=by decide+kernel
theorem Gz:aaO "max"=some (.builtin "max"):=by decide+kernel
theorem OS:aaO "min"=some (.builtin "min"):=by decide+kernel
theorem GA:aaO "abs"=some (.builtin "abs"):=by decide+kernel
theorem wc:aaO "sorted"=some (.builtin "sorted"):=by decide+kernel
theorem OT:aaO "all"=some (.builtin "all"):=by decide+kernel
end L2
namespace HT
open L2
end HT
namespace L2
theorem Bj {p:Z_}(h:H p=none)(o:HO):aR H (cH H p o):=λb u q=>by rw[a_ (b8 q h)];exact q
section
open AutoSeq1 (wpAny_loadPart')
theorem mQ {A:aaC}{Q:List ZR->Z5->Prop}{r:Z_}{a b c:Int}{t u v:Tok}(hh:A.handled=none)(hr:IsRange s.heap r a b c t u v)(Cw:Builtin.Range.small a b c=true)(hn:adt a b c=n)(nX:n<=2 ^ 24)(hQ:∀h' tk (bE:Array ZR),(∀b o',s.heap.get? b=some o'->h'.get? b=some o')->ItemsOf (λi v=>∃t,v=.int (a+i*c) t) bE n->Q bE.toList {s with heap:=h',toks:=tk}) :
  aac (aan prog w) A (collect (.ref r)) Q E s:=by
 unfold collect;refine ZE (wpAny_runValue (ab0 F.entry_proto_collect ?_));rw[abz F.plain_proto_collect _];show aac _ A.in1 (newList [] >>= λl=>again (.builtin "list.__iadd__" ⟨[l,.ref r],[]⟩)) _ _ s;refine ZE (aav ?_);refine ZJ ⟨plainId_quiet F.plain_list_iadd _,ab0 F.entry_list_iadd ?_⟩;rw[abz F.plain_list_iadd _];have hS:(s.heap.push {cls:=.type "list",data:=.seq ([]:List ZR).toArray}).get? s.heap.objs.size=some {cls:=.type "list",data:=.seq #[] 0}:=ZW _ rfl;show aac _ A.in1 (aes (.ref s.heap.objs.size) (.ref r) (.ref s.heap.objs.size)) _ _ _;refine aaM (wpAny_extend_range (A:=A) (R:=λres s'=>res=.ok (.ret (.ref s.heap.objs.size))/\aac (aan prog w) A (load s.heap.objs.size >>= λo=>match o.data with|.seq xs _=>pure xs.toList|_=>unsupported "internal:collect") Q E s')
  hh (ZP _ hr) Cw hn nX s.heap.objs.size _ 0 hS λh' tk QG c' hk QH r_=>⟨rfl,?_⟩) (λfin s' h=>?_) λe s' h=>absurd h.1 (by simp)
 ·refine ZE (wpAny_load QH (ZJ ?_));exact hQ h' tk QG (λb o' hb=>hk b o' (aah (Z4 hb)) (ZP _ hb)) r_
 ·cases fin with
  |done f=>
   obtain⟨e,q⟩:=h;cases e;exact q
  |again c'=>exact⟨h.1,ad4 h.2 λr N7 hr=>by obtain⟨rfl,q⟩:=hr;exact q⟩
theorem k8 (l:Z_)(a b c:Int)(t u v:Tok)(n:Nat)(Cw:Builtin.Range.small a b c=true)(hn:adt a b c=n)(nX:n<=2 ^ 20) :
  Meets (Builtin.«tuple.__new__» ⟨[.type "tuple",.ref l],[]⟩)
   (λA R s=>A.handled=none/\IsRange s.heap l a b c t u v/\∀(h':acz) (tk:Nat) (bE:Array ZR),(∀b o',s.heap.get? b=some o'->h'.get? b=some o')->ItemsOf (λi v=>∃t,v=.int (a+i*c) t) bE n->
    R (.ok (.ret (.ref h'.objs.size))) {s with heap:=h'.push {cls:=.type "tuple",data:=.seq bE},toks:=tk}):=
 .of_wp λprog w A R s h=>by
  obtain⟨hp,g,d,tk,os⟩:=s;obtain⟨hh,ht,h⟩:=h;have Yd:=sub_tuple_self;have Xd:=init_tuple_lookup;have Zj:=madeHere_tuple;have hT:Shared.TypeIs ⟨hp,g,d,tk,os⟩ (.ref l) "range":=⟨_,ht,rfl⟩;wp_walk using wpAny_typeOf hT,mQ (A:=A.in1) hh ht Cw hn (by lia);intro h' VX bE hk r_;show aac _ _ (ae0 bE.toList.toArray >>= λv=>ret v) _ _ _;unfold ae0;refine ZE (aav ?_ (by show bE.toList.toArray.size<=ZL;rw[abv];simp;have:=r_.1;lia));refine ZJ ⟨_,rfl,?_⟩;have e:bE.toList.toArray=bE:=by simp
  rw[e];exact h h' VX bE hk r_
theorem tq (hc:X.calm=true):fB X (.type "tuple") (λxs H Q=>∃p lo hi,xs=[.ref p]/\H p=some (.rng lo hi)/\(-(2 ^ 62)<=lo/\lo<2 ^ 62/\ -(2 ^ 62)<=hi/\hi<2 ^ 62)/\(hi-lo).toNat<=2 ^ 20/\
  ∀l,H l=none->Q (.ref l) (cH H l (.tup ((ZU (hi-lo).toNat).map λi=>V.int (lo+(i:Nat)))))):=by
 intro pins s σ H xs us Q I r h;obtain⟨p,lo,hi,rfl,hp,⟨h1,h2,h3,h4⟩,hz,q⟩:=h;obtain⟨u,rfl,rx⟩:=jE r;cases rx;obtain⟨t,u,v,e⟩:=I.hok p _ hp;refine callType_new F.called_tuple (by decide) (F.typeCall_tuple_1 _) (F.newCall_tuple_1 _) (λobj=>F.args_object_init_2 obj _) F.entry_tuple_new
  (k8 p lo hi 1 t u v (hi-lo).toNat (small_one h1 h2 h3 h4) (by rw[rangeSize_one];split<;>lia) hz) ⟨I.ok.hd hc,e,λh' tk bE hk r_=>⟨⟨_,ZW _ rfl,rfl⟩,?_⟩⟩
 have hl:((ZU (hi-lo).toNat).map λi=>V.int (lo+(i:Nat))).length<=ZL:=by
  rw[ZF,aaa,abv];lia
 have I1:aL X pins σ H {s with heap:=h',toks:=tk}:=I.kept hk;refine⟨.ref h'.objs.size,_,I1.laid (t':=tk) (λb o e=>ZP _ e) (ZS _) (show dH X.prog X.w _ _ _ (.tup _) from ⟨hl,bE.toList,tm r_,by simpa using IsTup.new h' bE,0,by simpa using ZW h' rfl⟩),rfl,q _ (I1.hok.fresh (ZS _))⟩
end
end L2
namespace HT
open L2
end HT
namespace L2
def zc:V->List V->Hp->VK->Prop:=λx vs H Q=>∃l b xs zs,x=.ref l/\vs=[.ref b]/\H l=some (.lst xs)/\H b=some (.tup zs)/\xs.length+zs.length<=ZL/\Q .non (cH H l (.lst (xs++zs)))
theorem Bk:U_ X "list.extend" zc:=by
 intro pins s σ H x vs v us Q I rx rv h;obtain⟨l,b,xs,zs,rfl,rfl,hH,hB,hz,q⟩:=h;cases rx;obtain⟨u,rfl,ru⟩:=rv.one;cases ru;obtain⟨z,aD,n,r,hl,e⟩:=I.lstM hH;obtain⟨z2,its2,r2,_,n2,e2⟩:=I.hok b _ hB;have Oa:=r2.length;have hsz:aD.toArray.size+its2.toArray.size<=ZL:=by rw[ZZ,ZZ];lia
 have JQ:¬(!aD.toArray.isEmpty&&acj (aD.toArray.size+its2.toArray.size))=true:=by
  rw[s_ hsz,ac5];exact ZM
 refine aem F.slot_list_extend ⟨_,e,rfl⟩ F.entry_list_extend (F.args_list_extend_2 _ _)
  (AutoSeq1.list_extend_list_tuple_0 l aD.toArray n b its2.toArray n2 JQ (by rw[ZZ];lia) (by lia)) ⟨e,e2,?_⟩
 refine⟨.non,_,I.lset (its':=aD++its2) hH e (by simp) (r.append r2) ?_,rfl,q⟩;rw[Z3];lia
theorem xm:fB X (.builtin "sorted") (λxs H Q=>∃(p:Z_) (ns:List Int),xs=[.ref p]/\(fu X.K H p (ns.map V.int)\/iC X.K H p (ns.map V.int))/\ns.length<64/\
  ∀(l:Z_) (xh:List Int),H l=none->xh.Perm ns->xh.Pairwise (·<=·)->Q (.ref l) (cH H l (.lst (xh.map V.int)))):=by
 intro pins s σ H xs us Q I r h;obtain⟨p,ns,rfl,hq,h64,q⟩:=h;obtain⟨u,rfl,rx⟩:=jE r;cases rx;have Mr:∃(T:String) (o:Obj) (aD:List ZR) (n:Nat),(T="list"\/T="tuple")/\s.heap.get? p=some o/\o.cls=.type T/\o.data=.seq aD.toArray n/\adQ aD ns:=by
  rcases hq with hq|hq
  ·obtain⟨aD,rv,pl,hz⟩:=I.list hq;obtain⟨o,e,c,n,d⟩:=pl.isList;exact⟨"list",o,aD,n,.inl rfl,e,c,d,i9 rv⟩
  ·obtain⟨aD,rv,pl,hz⟩:=I.tuple hq;obtain⟨o,e,c,n,d⟩:=pl;exact⟨"tuple",o,aD,n,.inr rfl,e,c,d,i9 rv⟩
 obtain⟨T,o,aD,n,hT,ho,hc,hd,hI⟩:=Mr;have nX:aD.length=ns.length:=hI.length;refine aeP kind_sorted plain_sorted entry_sorted (args_sorted1 _) ?_;unfold Builtin.«sorted»;refine ZE (m:=checkCount "sorted" 1 1 _) (ZJ ?_);refine ZE (ae1 p hT ho hc hd (λh1 k1=>?_) (by rw[ZZ,abv];lia));refine ZE (wpAny_newList ?_);have QI:(h1.push (aeI "list" aD.toArray 0)).get? h1.objs.size=some (aeI "list" aD.toArray 0):=ZW _ rfl;have QJ:(h1.push {cls:=.type "list",data:=.seq (aD.toArray.toList).toArray}).get? h1.objs.size=some (aeI "list" aD.toArray 0):=by simpa using QI
 refine ZE (aa9 (aat slot_list_sort ⟨_,QJ,rfl⟩ entry_list_sort (list_sort_tree QJ hI (by lia) λout xh a1 a2 a3=>⟨_,rfl,?_⟩) (args_list_sort _)));refine ZJ ⟨_,rfl,?_⟩;obtain⟨e,he⟩:=sortedHeap_at (out:=out) QJ;have keep:∀b o,h1.get? b=some o->(sortedHeap (h1.push {cls:=.type "list",data:=.seq (aD.toArray.toList).toArray}) h1.objs.size aD out).get? b=some o:=λb o e=>by
  have hb:=Z4 e;rw[sortedHeap_old (aah hb) (by rw[abJ];exact acY hb)];exact ZP _ e
 have I1:aL X pins σ H {s with heap:=h1}:=I.kept (t':=s.toks) k1;have Oa:(xh.map V.int).length<=ZL:=by rw[ZF,a2.length_eq,abv];lia
 exact⟨.ref h1.objs.size,_,I1.laid (t':=s.toks) keep (ZS _) (show dH X.prog X.w _ _ _ (.lst _) from ⟨Oa,out.toList,e,pN a1,by simpa using he⟩),rfl,q _ xh (I1.hok.fresh (ZS _)) a2 a3⟩
theorem ES {bs:List Bool}{us:List ZR}(r:bg (bs.map V.bl) us){v:ZR}(h:us[i]? = some v):v=.bool (bs.getD i true):=by
 have hl:=r.length;rw[ZF] at hl;obtain⟨hi,_⟩:=ZQ.mp h;have e:(bs.map V.bl)[i]? = some (V.bl (bs.getD i true)):=by
  rw[ZT,ZH (by lia)];simp[aet,ZH (show i<bs.length by lia)]
 obtain⟨u,hu,ru⟩:=r.get e;rw[h] at hu;cases hu;exact ru
theorem ET (bs:List Bool):((ZU bs.length).all λi=>bs.getD i true)=bs.all id:=by
 induction bs with
 |nil=>rfl
 |cons b bs ih=>
  rw[Z0,adM,acu,List.all_map,acu];congr 1
theorem EU (hc:X.calm=true):fB X (.builtin "all") (λxs H Q=>∃(p:Z_) (bs:List Bool),xs=[.ref p]/\fu X.K H p (bs.map V.bl)/\Q (.bl (bs.all id)) H):=by
 intro pins s σ H xs us Q I r h;obtain⟨p,bs,rfl,hq,q⟩:=h;obtain⟨u,rfl,rx⟩:=jE r;cases rx;obtain⟨aD,rv,pl,hz⟩:=I.list hq;have hl:=pl.isList;have vU:p<s.heap.objs.size:=by obtain⟨_,e,_⟩:=hl;exact Z4 e
 refine call_all_walk (aeX hl ?_);refine⟨s.heap.objs.size,_,_,_,_,_,λi=>bs.getD i true,rfl,Walks.list (A:=X.A.in1) (I.ok.hd hc) _ p (aah vU) aD.toArray,⟨⟨_,ZW _ rfl,rfl,rfl⟩,hl.push _⟩,?_,λh' tk hk=>?_⟩
 ·intro i v s' Q' E' hP Ye;have e:=ES rv (i:=i) (v:=v) (by simpa using hP);subst e;exact aeW Ye
 ·have e:(ZU aD.toArray.size).all (λi=>bs.getD i true)=bs.all id:=by
   rw[ZZ,←rv.length,ZF];exact ET bs
  rw[e];refine⟨.bl _,H,I.kept λb o e=>hk b o (λhm=>?_) (ZP _ e),rfl,q⟩;rcases ZX.mp hm with e1|hm
  ·exact absurd (e1▸Z4 e) (aaQ _)
  ·cases hm
def GB:R2:=λx y H Q=>∃a b xs ys,x=.ref a/\y=.ref b/\H a=some (.tup xs)/\H b=some (.tup ys)/\xs.length+ys.length<=ZL/\∀r H',aR H H'->H' r=some (.tup (xs++ys))->Q (.ref r) H'
theorem GC:lC X (acS .Add) GB:=by
 intro pins s σ H x y v u Q I rx ry h;obtain⟨a,b,xs,ys,rfl,rfl,A7,yN,hz,q⟩:=h;have ha:iC X.K H a xs:=iC.of A7;have hb:iC X.K H b ys:=iC.of yN;by_cases hx:xs=[]
 ·subst hx;cases rx;cases ry;obtain⟨aD,r1,p1,_⟩:=I.tuple ha;obtain⟨its2,r2,p2,_⟩:=I.tuple hb;have e1:aD=[]:=(bg.nil_iff r1).mpr rfl;subst e1;obtain⟨⟨cls,dd,data,sl⟩,ho,hc,n,hd⟩:=id p1;obtain⟨⟨cls2,dd2,data2,sl2⟩,ho2,QT,n2,F2⟩:=id p2;simp only at hc hd QT F2;subst hc hd QT F2;exact concat_meets ⟨_,ho,rfl⟩ ⟨_,ho2,rfl⟩ noFill_tuple_add seq_tuple_add adJ adx (adn _ _)
   (tuple_addW0 a b ([]:List ZR).toArray its2.toArray n n2 dd dd2 sl sl2 (by simp)) ⟨ho,ho2,⟨.ref b,H,I,rfl,q b H (aR.refl _) (by simpa using yN)⟩⟩
 ·refine Km pins s σ H _ _ v u Q I rx ry ⟨a,b,xs,ys,rfl,rfl,ha,hb,hx,hz,λe=>?_,λ_ p hp=>q p _ (Bj hp _) bj⟩;subst e;exact q a H (aR.refl _) (by simpa using A7)
end L2
namespace L2
structure Fn (P:acC)(w:acs)(K:ZN)(mg:Str->Option ZR)(base:acz)(x:Str)(k:Nat)(ps:List Str)(sp:Sp):Prop where
 ex:∃(f:Z_) (fd:aeh),mg x=some (.ref f)/\acA K (.ref f)=true/\vX K fd ps []/\mP P w K mg base yY k f fd ps sp
structure Df (K:ZN)(mg:Str->Option ZR)(x:Str)(st:adh):Prop where
 ex:∃(f:Z_) (fd:aeh),mg x=some (.ref f)/\JY K x x st f fd
section
variable {base:acz}
theorem Df.fn (d:Df K mg x st)(S:aN N ps (ao st))(hb:∀(kV pK pm:ZR) (an:Option Z_) (cQ ct:ZR) (us:List ZR),us.length=ps.length->bindArgs (abA x x (gb st) (cP st) (ao st) .none kV pK pm an cQ ct) ⟨us,[]⟩=pure (ps.zip us))(len:∀vs H Q E,sp vs H Q E->vs.length=ps.length)(jq:∀(f:Z_) (cQ:ZR) (A:aaC) (outer:List Env) (s:Z5) (H:Hp) (vs:List V) (Q:VK) (E:XK),f9 k (A.deeper (aeG x (ao st) s.heap.objs.size f cQ))->sp vs H Q E->
   ∃t,vt (rA yY P w K mg base N x (ao st) f cQ A outer s H E).nox (cP st) t/\t {nx:=λ_ H'=>Q .non H',rt:=Q} (adp N vs) H):Fn P w K mg base x (k+1) ps sp:=by
 obtain⟨f,fd,m,F⟩:=d.ex;exact⟨f,fd,m,F.kp,F.binds hb,F.ok S len (jq f)⟩
end
section
variable {p pos:Pos}{e:abH}{es:List abH}{t:TA}
theorem zd (F:Fn X.prog X.w X.K X.mg X.base x k ps sp)(hr:f9 k X.A)(ha:PA X (e::es) t)(hg:Gl X x:=by rfl)(Ct:(x==("__debug__":Str))=false:=by decide)
  (he:Z8 (e::es) X.env=(false,acD e X.env)::Z8 es X.env:=by rfl) (sS:(abW pos (Z8 es X.env)).any (·.1)=false:=by rfl) :
  PE X (.Call (.Name x p) (e::es) [] pos) (MD sp [] E0 t):=by
 obtain⟨f,fd,hm,hk,hb,G⟩:=F.ex;exact Kl G hr hg hm hk hb .nil RD ha Ct he sS
end
theorem aR.seqT (e:aR H H')(h:iC K H a xs):iC K H' a xs:=by
 rcases h with (h|⟨o,h⟩)|h
 ·exact .inl (.inl (e _ _ h))
 ·exact .inl (.inr ⟨o,e _ _ h⟩)
 ·exact .inr h
mutual
theorem aR.rep {K:ZN}{H H':Hp}(e:aR H H'):∀{d:D} {v:V},eB K H d v->eB K H' d v
 | .non,v,h=>by unfold eB at h ⊢;exact h
 | .bl b,v,h=>by unfold eB at h ⊢;exact h
 | .int b,v,h=>by unfold eB at h ⊢;exact h
 | .str b,v,h=>by unfold eB at h ⊢;exact h
 | .tup ds,v,h=>by
  unfold eB at h ⊢;obtain⟨a,xs,r,q,z⟩:=h;exact⟨a,xs,r,e.seqT q,aR.reps e z⟩
 | .lst ds,v,h=>by
  unfold eB at h ⊢;obtain⟨a,xs,r,q,z⟩:=h;exact⟨a,xs,r,e.seq q,aR.reps e z⟩
theorem aR.reps {K:ZN}{H H':Hp}(e:aR H H'):∀{ds:List D} {vs:List V},eX K H ds vs->eX K H' ds vs
 | [],vs,h=>by unfold eX at h ⊢;exact h
 |d::ds,vs,h=>by
  unfold eX at h ⊢;obtain⟨x,r,q,p,z⟩:=h;exact⟨x,r,q,aR.rep e p,aR.reps e z⟩
end
end L2
namespace L2
inductive U where
 |non|bl (b:Bool)|int (i:Int)|str (x:Str)|tup (xs:List U)|lst (xs:List U)|dct (ks vs:List U)|scr (xs:List U)|obj (fs:List Str) (xs:List U)
instance:Inhabited U:=⟨.non⟩
inductive R (α:Type) where
 |ok (a:α)|exc (c:String) (u:U)|stk
def R.bind {α β:Type}:R α->(α->R β)->R β
 | .ok a,f=>f a
 | .exc c u,_=>.exc c u
 | .stk,_=>.stk
abbrev Ev:=List (Option U)
inductive SR where
 |nx (ρ:Ev)|rt (u:U) (ρ:Ev)|bk (ρ:Ev)|ct (ρ:Ev)|exc (c:String) (u:U)|stk
end L2
variable {us ks:List L2.U}{u u' menu sh dU:L2.U}{es:List (List L2.U×Z_×L2.V)}{ρ:L2.Ev}{sg:L2.U->L2.Ev->L2.R L2.Ev}{F:L2.U->L2.U}{x1 o5 o6 x0 x3 x4 x5 x6 x2:Option L2.U}
namespace L2
open Sem (wp)
mutual
def vx:U->U->Bool
 | .non,.non=>true
 | .bl a,.bl b=>decide (a=b)
 | .int a,.int b=>decide (a=b)
 | .str a,.str b=>decide (a=b)
 | .tup a,.tup b=>ou a b
 | .lst a,.lst b=>ou a b
 | .dct a b,.dct c d=>ou a c&&ou b d
 | .scr a,.scr b=>ou a b
 | .obj a b,.obj c d=>decide (a=c)&&ou b d
 |_,_=>false
def ou:List U->List U->Bool
 | [],[]=>true
 |x::xs,y::ys=>vx x y&&ou xs ys
 |_,_=>false
end
mutual
theorem GD:∀{a b:U},vx a b=true->a=b
 | .non,b,h=>by cases b<;>first|rfl|(unfold vx at h;cases h)
 | .bl a,b,h=>by cases b<;>unfold vx at h<;>first|(cases h;done)|rw[of_decide_eq_true h]
 | .int a,b,h=>by cases b<;>unfold vx at h<;>first|(cases h;done)|rw[of_decide_eq_true h]
 | .str a,b,h=>by cases b<;>unfold vx at h<;>first|(cases h;done)|rw[of_decide_eq_true h]
 | .tup a,b,h=>by cases b<;>unfold vx at h<;>first|(cases h;done)|rw[kE h]
 | .lst a,b,h=>by cases b<;>unfold vx at h<;>first|(cases h;done)|rw[kE h]
 | .scr a,b,h=>by cases b<;>unfold vx at h<;>first|(cases h;done)|rw[kE h]
 | .dct a c,b,h=>by
  cases b<;>unfold vx at h<;>first|(cases h;done)|skip
  rw[Z7] at h;rw[kE h.1,kE h.2]
 | .obj a c,b,h=>by
  cases b<;>unfold vx at h<;>first|(cases h;done)|skip
  rw[Z7] at h;rw[of_decide_eq_true h.1,kE h.2]
theorem kE:∀{a b:List U},ou a b=true->a=b
 | [],[],_=>rfl
 | [],_::_,h=>by unfold ou at h;cases h
 |_::_,[],h=>by unfold ou at h;cases h
 |x::xs,y::ys,h=>by
  unfold ou at h;rw[Z7] at h;rw[GD h.1,kE h.2]
end
mutual
theorem ze:∀(a:U),vx a a=true
 | .non=>rfl
 | .bl a=>by unfold vx;exact hG rfl
 | .int a=>by unfold vx;exact hG rfl
 | .str a=>by unfold vx;exact hG rfl
 | .tup a=>by unfold vx;exact gK a
 | .lst a=>by unfold vx;exact gK a
 | .scr a=>by unfold vx;exact gK a
 | .dct a b=>by unfold vx;rw[gK a,gK b];rfl
 | .obj a b=>by unfold vx;rw[gK b,hG rfl];rfl
theorem gK:∀(a:List U),ou a a=true
 | []=>by unfold ou;rfl
 |x::xs=>by unfold ou;rw[ze x,gK xs];rfl
end
noncomputable instance XM:DecidableEq U:=λa b=>if h:vx a b=true then .isTrue (GD h) else .isFalse λe=>h (by rw[e];exact ze b)
mutual
def gL (h:acz):U->ZR->Prop
 | .int i,v=>∃t,v=.int i t
 | .tup us,v=>∃a items,v=.ref a/\h.IsTuple a items/\dM h us items.toList
 |_,_=>False
def dM (h:acz):List U->List ZR->Prop
 | [],vs=>vs=[]
 |u::us,vs=>∃v r,vs=v::r/\gL h u v/\dM h us r
end
mutual
def hK:U->Int
 | .int i=>hashInt i
 | .tup us=>reduceHash (abh (yL us))
 |_=>0
def yL:List U->List Int
 | []=>[]
 |u::us=>hK u::yL us
end
mutual
def MJ:U->Nat
 | .tup us=>pQ us+1
 |_=>1
def pQ:List U->Nat
 | []=>0
 |u::us=>MJ u+pQ us
end
mutual
def AV:U->Nat
 | .tup us=>vz us+1
 |_=>0
def vz:List U->Nat
 | []=>0
 |u::us=>max (AV u) (vz us)
end
theorem Bl {x y:Array ZR}(h1:h.IsTuple a x)(h2:h.IsTuple a y):x=y:=by
 obtain⟨o,e,_,n,d⟩:=h1;obtain⟨o',e',_,n',d'⟩:=h2;rw[e] at e';cases e';rw[d] at d';cases d';rfl
mutual
theorem gL.inj {h:acz}:∀{x y:U} {v:ZR},gL h x v->gL h y v->x=y
 | .int i,y,v,h1,h2=>by
  unfold gL at h1;obtain⟨t,rfl⟩:=h1;cases y<;>unfold gL at h2<;>first|exact h2.elim|skip
  ·obtain⟨u,e⟩:=h2;cases e;rfl
  ·obtain⟨_,_,e,_⟩:=h2;cases e
 | .str i,y,v,h1,h2=>by unfold gL at h1;exact h1.elim
 | .tup us,y,v,h1,h2=>by
  unfold gL at h1;obtain⟨a,aD,rfl,q,z⟩:=h1;cases y<;>unfold gL at h2<;>first|exact h2.elim|skip
  ·obtain⟨u,e⟩:=h2;cases e
  ·obtain⟨a',its',e,q',z'⟩:=h2;cases e;have:=Bl q q';subst this;rw[dM.inj z z']
 | .non,y,v,h1,h2=>by unfold gL at h1;exact h1.elim
 | .bl _,y,v,h1,h2=>by unfold gL at h1;exact h1.elim
 | .lst _,y,v,h1,h2=>by unfold gL at h1;exact h1.elim
 | .dct _ _,y,v,h1,h2=>by unfold gL at h1;exact h1.elim
 | .scr _,y,v,h1,h2=>by unfold gL at h1;exact h1.elim
 | .obj _ _,y,v,h1,h2=>by unfold gL at h1;exact h1.elim
theorem dM.inj {h:acz}:∀{x y:List U} {vs:List ZR},dM h x vs->dM h y vs->x=y
 | [],y,vs,h1,h2=>by
  unfold dM at h1;subst h1;cases y with
  |nil=>rfl
  |cons=>unfold dM at h2;obtain⟨_,_,e,_⟩:=h2;cases e
 |u::us,y,vs,h1,h2=>by
  unfold dM at h1;obtain⟨v,r,rfl,p,q⟩:=h1;cases y with
  |nil=>unfold dM at h2;cases h2
  |cons=>
   unfold dM at h2;obtain⟨v',r',e,p',q'⟩:=h2;cases e;rw[gL.inj p p',dM.inj q q']
end
mutual
theorem gL.keep {h h':acz}(k:∀a aD,h.IsTuple a aD->h'.IsTuple a aD):∀{x:U} {v:ZR},gL h x v->gL h' x v
 | .int i,v,h1=>by unfold gL at h1 ⊢;exact h1
 | .str i,v,h1=>by unfold gL at h1;exact h1.elim
 | .tup us,v,h1=>by
  unfold gL at h1 ⊢;obtain⟨a,aD,e,q,z⟩:=h1;exact⟨a,aD,e,k a aD q,dM.keep k z⟩
 | .non,v,h1=>by unfold gL at h1;exact h1.elim
 | .bl _,v,h1=>by unfold gL at h1;exact h1.elim
 | .lst _,v,h1=>by unfold gL at h1;exact h1.elim
 | .dct _ _,v,h1=>by unfold gL at h1;exact h1.elim
 | .scr _,v,h1=>by unfold gL at h1;exact h1.elim
 | .obj _ _,v,h1=>by unfold gL at h1;exact h1.elim
theorem dM.keep {h h':acz}(k:∀a aD,h.IsTuple a aD->h'.IsTuple a aD):∀{x:List U} {vs:List ZR},dM h x vs->dM h' x vs
 | [],vs,h1=>by unfold dM at h1 ⊢;exact h1
 |u::us,vs,h1=>by
  unfold dM at h1 ⊢;obtain⟨v,r,e,p,q⟩:=h1;exact⟨v,r,e,gL.keep k p,dM.keep k q⟩
end
theorem dM.length {h:acz}:∀{us:List U} {vs:List ZR},dM h us vs->us.length=vs.length
 | [],vs,h1=>by unfold dM at h1;subst h1;rfl
 |u::us,vs,h1=>by
  unfold dM at h1;obtain⟨v,r,rfl,p,q⟩:=h1;rw[Z0,Z0,dM.length q]
theorem dM.get {h:acz}:∀{us:List U} {vs:List ZR} {i:Nat} {u:U} {v:ZR},dM h us vs->us[i]? = some u->vs[i]? = some v->gL h u v
 | [],_,_,_,_,_,e,_=>by simp at e
 |w::us,_,i,u,v,h,e1,e2=>by
  unfold dM at h;obtain⟨x,r,rfl,p,q⟩:=h;cases i with
  |zero=>simp at e1 e2;subst e1 e2;exact p
  |succ i=>exact dM.get q (by simpa using e1) (by simpa using e2)
theorem ow:∀{us:List U} {i:Nat} {u:U},us[i]? = some u->AV u<=vz us
 | [],_,_,e=>by simp at e
 |w::us,i,u,e=>by
  unfold vz;cases i with
  |zero=>simp at e;subst e;exact Nat.le_max_left _ _
  |succ i=>exact aaP (ow (us:=us) (by simpa using e)) (Nat.le_max_right _ _)
theorem tw:∀(a b:List U),yL (a++b)=yL a++yL b
 | [],b=>by unfold yL;rfl
 |x::a,b=>by rw[ab6,yL,yL,tw a b];rfl
theorem qy:∀(a b:List U),pQ (a++b)=pQ a+pQ b
 | [],b=>by rw[acJ];show _=0+_;lia
 |x::a,b=>by rw[ab6,pQ,pQ,qy a b];lia
theorem OU:∀(n:Nat) (u:U) (v:ZR) (A:aaC) (E:ZR->Z5->Prop) (s:Z5) (Q:Int->Z5->Prop),AV u<=n->A.units+n<abo->gL s.heap u v->Q (hK u) {s with toks:=s.toks+MJ u} ->
  aac (aan prog w) A (pyHash v) Q E s:=by
 intro n
 induction n with
 |zero=>
  intro u v A E s Q hd hu hk h;cases u<;>unfold gL at hk<;>first|exact hk.elim|skip
  ·obtain⟨t,rfl⟩:=hk;unfold hK MJ at h;exact wpAny_pyHash_int h
  ·unfold AV at hd;lia
 |succ n ih=>
  intro u v A E s Q hd hu hk h;cases u<;>unfold gL at hk<;>first|exact hk.elim|skip
  ·obtain⟨t,rfl⟩:=hk;unfold hK MJ at h;exact wpAny_pyHash_int h
  ·rename_i us;unfold AV at hd;obtain⟨a,items,rfl,ht,hi⟩:=hk;have hT:s.TypeIs (.ref a) "tuple":=let ⟨o,e,c,_⟩:=ht;⟨o,e,c⟩
   obtain⟨o,ho,_,nn,hdat⟩:=ht;unfold pyHash
   first|unfold pyHashByItsType|skip
   first|refine ZE (wpAny_cRoomFor_or (.inr (by lia)) ?_)|skip
   refine ZE (acH hT F.slot_tuple_hash.lookup ?_);show aac _ _ (if (some (Value.builtin "tuple.__hash__")==some Value.none)=true then _ else _) Q E s;rw[hV (by rw[beq_builtin_none];exact ZM)];refine ZE (acH hT F.slot_tuple_hash.lookup ?_);show aac _ _ (callSpecialIfBoundUnlessNone? (.ref a) "__hash__" _ >>= _) Q E s;refine ZE (wpAny_callSpecialIfBoundUnlessNone?_slot hT F.slot_tuple_hash (aat F.slot_tuple_hash hT F.entry_tuple_hash ?_ (F.args_tuple_hash_1 _)));show aac _ _ (aez (.ref a) >>= _) _ _ s;refine ZE (wpAny_tupleItemsOf ho hdat ?_);refine ZE ?_;rw[←aeJ];refine wpAny_forIn_list _
    (λrest (b:Array Int) s'=>∃done left,us=done++left/\dM s.heap left rest/\b.toList=yL done/\s'={s with toks:=s.toks+pQ done})
    _ ?_ ?_ _ _ ⟨[],us,rfl,hi,by unfold yL;rfl,by unfold pQ;rfl⟩
   ·rintro x rest b s' ⟨done,left,rfl,hl,hb,rfl⟩;cases left with
    |nil=>unfold dM at hl;cases hl
    |cons k ks'=>
     unfold dM at hl;obtain⟨v',r',e,h1,hl'⟩:=hl;cases e;have VY:AV k<=n:=by
      have:=ow (us:=done++k::ks') (i:=done.length) (u:=k) (by simp);lia
     refine ZE (ih k x A.in1 E _ _ VY (by show A.units+1+n<abo;lia) h1 ?_);have e2:yL (done++[k])=yL done++[hK k]:=by rw[tw];unfold yL yL;rfl
     have e3:pQ (done++[k])=pQ done+MJ k:=by rw[qy];show _+(MJ k+pQ [])=_;unfold pQ;lia
     first
      |exact ZJ ⟨done++[k],ks',by simp,hl',by simp[hb,e2],by simp[e3,aej]⟩
      |exact ZE (ZJ (ZJ ⟨done++[k],ks',by simp,hl',by simp[hb,e2],by simp[e3,aej]⟩))
   ·rintro b s' ⟨done,left,rfl,hl,hb,rfl⟩;cases left with
    |cons k ks'=>unfold dM at hl;obtain⟨_,_,e,_⟩:=hl;cases e
    |nil=>
     rw[aaW] at h;show aac _ _ (retInt (abh b.toList)) _ _ _;rw[hb];refine wpAny_ret_mkInt ?_;show aac _ _ (if (decide (-(2:Int) ^ 63<=abh (yL done))&&decide (abh (yL done)<2 ^ 63))=true then _ else _) Q E _;unfold hK MJ reduceHash at h;by_cases hr:(decide (-(2:Int) ^ 63<=abh (yL done))&&decide (abh (yL done)<2 ^ 63))=true
     ·rw[hZ hr];rw[hZ hr] at h;exact ZJ (by simpa [aej] using h)
     ·rw[hV hr];rw[hV hr] at h;exact ZE (wpAny_rule (ZJ (by simpa [aej] using h)))
theorem Vb:∀(n:Nat) (x y:U) (u v:ZR) (A:aaC),AV x<=n->A.units+n<abo->gL s.heap x u->gL s.heap y v->acX A s u v (decide (x=y)):=by
 intro n
 induction n with
 |zero=>
  intro x y u v A hd hu h1 h2;have gG:A.units<abo:=by lia
  cases x<;>(try (unfold gL at h1;exact h1.elim))
  case int i=>
   unfold gL at h1;obtain⟨t,rfl⟩:=h1;cases y<;>(try (unfold gL at h2;exact h2.elim))
   case int j=>
    unfold gL at h2;obtain⟨t',rfl⟩:=h2;have:=SeqAt.EqAt.int_int (A:=A) (s:=s) i t j t';have e:decide (U.int i=U.int j)=(i==j):=by rw[aaw];simp
    rw[e];exact this
   case tup us=>
    unfold gL at h2;obtain⟨a,aD,rfl,ht,_⟩:=h2;rw[hJ (by intro z;cases z)];exact SeqAt.EqAt.int_tuple i t ht gG
  case tup us=>unfold AV at hd;lia
 |succ n ih=>
  intro x y u v A hd hu h1 h2;have gG:A.units<abo:=by lia
  cases x<;>(try (unfold gL at h1;exact h1.elim))
  case int i=>exact ih _ y u v A (by unfold AV;lia) (by lia) h1 h2
  case tup us=>
   unfold AV at hd;have TV:=h1;unfold gL at h1;obtain⟨a,aD,rfl,p1,z1⟩:=h1;cases y<;>(try (unfold gL at h2;exact h2.elim))
   case int j=>
    unfold gL at h2;obtain⟨t',rfl⟩:=h2;rw[hJ (by intro z;cases z)];exact SeqAt.EqAt.tuple_int j t' p1 gG
   case tup ws=>
    have Ex:=h2;unfold gL at h2;obtain⟨b,its2,rfl,p2,z2⟩:=h2;by_cases xi:a=b
    ·subst xi;rw[gL.inj TV Ex,hG rfl];exact aer _
    ·refine aeH xi ?_;have l1:aD.size=us.length:=by rw[z1.length,aao]
     have l2:its2.size=ws.length:=by rw[z2.length,aao]
     have he:∀j (g1:j<aD.size) (g2:j<its2.size),acX A.in1 s aD[j] its2[j] (decide (us[j]? = ws[j]?)):=λj g1 g2=>by
      have q1:us[j]? = some us[j]:=ZH (by lia);have q2:ws[j]? = some ws[j]:=ZH (by lia);have y1:aD.toList[j]? = some aD[j]:=by rw[aaj];exact aae g1
      have y2:its2.toList[j]? = some its2[j]:=by rw[aaj];exact aae g2
      have e:decide (us[j]? = ws[j]?)=decide (us[j]=ws[j]):=by rw[q1,q2,aaw];simp
      rw[e];refine ih us[j] ws[j] aD[j] its2[j] A.in1 ?_ (by show A.units+1+n<abo;lia) (z1.get q1 y1) (z2.get q2 y2);have:=ow q1;lia
     have q:=SeqAt.RcAt.tuples (A:=A) p1 p2 gG he;rw[l1,l2] at q;have fin:((ZU (min us.length ws.length)).all (λj=>decide (us[j]? = ws[j]?))&&us.length==ws.length)=decide (U.tup us=U.tup ws):=by
      rw[aaw,Z7,aag,decide_eq_true_eq];constructor
      ·rintro⟨ha,hl⟩;have hl:us.length=ws.length:=by simpa using hl
       congr 1;refine acZ λj=>?_;by_cases hj:j<us.length
       ·exact of_decide_eq_true (ha j (Z6.mpr (by lia)))
       ·rw[aaY.mpr (by lia),aaY.mpr (by lia)]
      ·intro e;cases e;exact⟨λj _=>hG rfl,by simp⟩
     rw[←fin];exact q
theorem Ku:∀(n:Nat) (x:U) (v:ZR) (A:aaC) (E:ZR->Z5->Prop) (s:Z5) (Q:Bool->Z5->Prop),AV x<=n->gL s.heap x v->Q true s->aac (aan prog w) A (eqIsQuiet n v) Q E s:=by
 intro n
 induction n with
 |zero=>
  intro x v A E s Q hd hk h;cases x<;>unfold gL at hk<;>first|exact hk.elim|skip
  ·obtain⟨t,rfl⟩:=hk;rw[eqIsQuiet_byValue _ rfl];exact ZJ h
  ·unfold AV at hd;lia
 |succ n ih=>
  intro x v A E s Q hd hk h;cases x<;>unfold gL at hk<;>first|exact hk.elim|skip
  ·obtain⟨t,rfl⟩:=hk;rw[eqIsQuiet_byValue _ rfl];exact ZJ h
  ·rename_i us;unfold AV at hd;obtain⟨a,items,rfl,ht,hi⟩:=hk;have hT:s.TypeIs (.ref a) "tuple":=let ⟨o,e,c,_⟩:=ht;⟨o,e,c⟩
   obtain⟨o,ho,_,nn,hdat⟩:=ht;unfold eqIsQuiet;refine ZE (acH hT F.slot_tuple_eq.lookup ?_);show aac _ _ (isInstance (.ref a) (.type "tuple") >>= _) _ _ s;refine ZE (acv hT isSubtype_tuple_tuple ?_);simp only[aaz,aaq,if_false];refine ZE (wpAny_seqItems ho hdat ?_);refine ZE ?_;show aac _ _ (forIn items _ _) _ _ s;rw[←aeJ];refine wpAny_forIn_list _ (λrest r s'=>r.1=none/\s'=s/\∃done left,us=done++left/\dM s.heap left rest) _ ?_ ?_ _ _ ⟨rfl,rfl,[],us,rfl,hi⟩
   ·rintro v rest r s' ⟨hr,rfl,done,left,rfl,hl⟩;cases left with
    |nil=>unfold dM at hl;cases hl
    |cons k ks'=>
     unfold dM at hl;obtain⟨v',r',e,h1,hl'⟩:=hl;cases e;have VY:AV k<=n:=by
      have:=ow (us:=done++k::ks') (i:=done.length) (u:=k) (by simp);lia
     refine ZE (ih k v A E _ _ VY h1 ?_);simp only[aaz,aaq,if_false];exact ZJ ⟨rfl,rfl,done++[k],ks',by simp,hl'⟩
   ·rintro⟨r1,r2⟩ s' ⟨hr,rfl,_⟩;simp only at hr;subst hr;exact ZJ h
def TK (h:acz)(us:List U)(a:Z_):Prop:=vz us<=6/\∃items,h.IsTuple a items/\dM h us items.toList
theorem TK.is (x:TK h us a):AV (.tup us)<=7/\gL h (.tup us) (.ref a):=by
 obtain⟨l,aD,t,z⟩:=x;exact⟨by unfold AV;lia,by unfold gL;exact⟨a,aD,rfl,t,z⟩⟩
theorem kF {x y:List U}:(U.tup x=U.tup y)↔x=y:=⟨λh=>by cases h;rfl,λh=>by rw[h]⟩
def tE (prog:acC)(w:acs):adC prog w (List U) where
 is:=TK
 hash:=λus=>hK (.tup us)
 draws:=λus=>MJ (.tup us)
 room:=λA=>A.units+20<abo
 inj:=λhx hy=>kF.mp (gL.inj hx.is.2 hy.is.2)
 keeps:=λ{h h' k a d o es ep} x ho hd hs=>by
  have kp:∀b aD,h.IsTuple b aD->h'.IsTuple b aD:=λb aD h00=>by
   obtain⟨o',e,c,n,z⟩:=h00;have A6:b≠d:=by
    rintro rfl;obtain rfl:o'=o:=aab (e.symm.trans ho);rw[hd] at z;exact nomatch z
   exact⟨o',(hs.2 b A6).trans e,c,n,z⟩
  obtain⟨l,aD,t,z⟩:=x;exact⟨l,aD,kp _ _ t,z.keep kp⟩
 pyHash:=λ{A E s k a Q} hu hk h=>OU 7 (.tup k) (.ref a) A E s Q hk.is.1 (by lia) hk.is.2 h
 eqBool:=λ{A E s x y a b Q} hu hx hy h=>Vb 7 (.tup x) (.tup y) (.ref a) (.ref b) A hx.is.1 (by lia) hx.is.2 hy.is.2 prog w E Q (by
  have e:decide (U.tup x=U.tup y)=decide (x=y):=by rw[aaw,decide_eq_true_eq,decide_eq_true_eq];exact kF
  rw[e];exact h)
 quiet:=λ{A E s k a Q} hk h=>Ku 8 (.tup k) (.ref a) A E s Q (aaP hk.is.1 (by lia)) hk.is.2 h
def QV (p:List U×Z_×V)(q:List U×Z_×ZR):Prop:=p.1=q.1/\p.2.1=q.2.1/\aZ p.2.2 q.2.2
def RM (e:List U×Z_×ZR):ady:=⟨hK (.tup e.1),.ref e.2.1,e.2.2⟩
def RN (a:Z_)(ep:Nat)(es:List (List U×Z_×V))(h:acz):Prop:=(a==abC)=false/\∃o ds,∃xs:List (List U×Z_×ZR),h.get? a=some o/\o.ExactDict/\o.data=.dict ds ep/\aeT QV es xs/\ds.toList=xs.map RM
def DN (a:Z_)(ep:Nat)(es:List (List U×Z_×V)):HO:=.ext (RN a ep es)
mutual
def KH (H:Hp):U->V->Prop
 | .int i,v=>v=.int i
 | .tup us,v=>∃b ys,v=.ref b/\H b=some (.tup ys)/\us.length<=ZL/\tF H us ys
 |_,_=>False
def tF (H:Hp):List U->List V->Prop
 | [],vs=>vs=[]
 |u::us,vs=>∃v r,vs=v::r/\KH H u v/\tF H us r
end
mutual
theorem KH.to {H H':Hp}(e:∀b ys,H b=some (.tup ys)->H' b=some (.tup ys)):∀{u:U} {v:V},KH H u v->KH H' u v
 | .int i,v,h=>by unfold KH at h ⊢;exact h
 | .tup us,v,h=>by
  unfold KH at h ⊢;obtain⟨b,ys,r,q,l,z⟩:=h;exact⟨b,ys,r,e b ys q,l,tF.to e z⟩
 | .non,v,h=>by unfold KH at h;exact h.elim
 | .bl _,v,h=>by unfold KH at h;exact h.elim
 | .str _,v,h=>by unfold KH at h;exact h.elim
 | .lst _,v,h=>by unfold KH at h;exact h.elim
 | .dct _ _,v,h=>by unfold KH at h;exact h.elim
 | .scr _,v,h=>by unfold KH at h;exact h.elim
 | .obj _ _,v,h=>by unfold KH at h;exact h.elim
theorem tF.to {H H':Hp}(e:∀b ys,H b=some (.tup ys)->H' b=some (.tup ys)):∀{us:List U} {vs:List V},tF H us vs->tF H' us vs
 | [],vs,h=>by unfold tF at h ⊢;exact h
 |u::us,vs,h=>by
  unfold tF at h ⊢;obtain⟨v,r,q,p,z⟩:=h;exact⟨v,r,q,KH.to e p,tF.to e z⟩
end
mutual
theorem KH.is (ok:lB P w H h):∀{u:U} {v:V} {x:ZR},KH H u v->aZ v x->gL h u x
 | .int i,v,x,k,r=>by
  unfold KH at k;subst k;obtain⟨t,rfl⟩:=r;unfold gL;exact⟨t,rfl⟩
 | .tup us,v,x,k,r=>by
  unfold KH at k;obtain⟨b,ys,rfl,q,_,z⟩:=k;cases r;obtain⟨_,aD,rv,it,_⟩:=ok b _ q;unfold gL;exact⟨b,aD.toArray,rfl,it,by simpa using tF.is ok z rv⟩
 | .non,v,x,k,r=>by unfold KH at k;exact k.elim
 | .bl _,v,x,k,r=>by unfold KH at k;exact k.elim
 | .str _,v,x,k,r=>by unfold KH at k;exact k.elim
 | .lst _,v,x,k,r=>by unfold KH at k;exact k.elim
 | .dct _ _,v,x,k,r=>by unfold KH at k;exact k.elim
 | .scr _,v,x,k,r=>by unfold KH at k;exact k.elim
 | .obj _ _,v,x,k,r=>by unfold KH at k;exact k.elim
theorem tF.is (ok:lB P w H h):∀{us:List U} {vs:List V} {xs:List ZR},tF H us vs->bg vs xs->dM h us xs
 | [],vs,xs,k,r=>by
  unfold tF at k;subst k;cases r;unfold dM;rfl
 |u::us,vs,xs,k,r=>by
  unfold tF at k;obtain⟨v,vr,rfl,p,z⟩:=k;cases r with
  |cons r1 r2=>
   unfold dM;exact⟨_,_,rfl,KH.is ok p r1,tF.is ok z r2⟩
end
def vo (H:Hp)(us:List U)(b:Z_):Prop:=vz us<=6/\∃ys,H b=some (.tup ys)/\us.length<=ZL/\tF H us ys
theorem vo.tk (ok:lB P w H h)(k:vo H us b):TK h us b:=by
 obtain⟨l,ys,q,_,z⟩:=k;obtain⟨_,aD,rv,it,_⟩:=ok b _ q;exact⟨l,aD.toArray,it,by simpa using tF.is ok z rv⟩
theorem vo.to (e:∀b ys,H b=some (.tup ys)->H' b=some (.tup ys))(k:vo H us b):vo H' us b:=by
 obtain⟨l,ys,q,n,z⟩:=k;exact⟨l,ys,e b ys q,n,z.to e⟩
structure fx (H:Hp)(a:Z_)(es:List (List U×Z_×V)):Prop where
 ob:(∃ep,H a=some (DN a ep es))\/(es=[]/\H a=some (.dK []))
 nd:(es.map (·.1)).Nodup
 key:∀e∈es,vo H e.1 e.2.1
theorem tG {α β:Type}{R:α->β->Prop}:∀{xs:List α} {ys:List β} {y:β},aeT R xs ys->y∈ys->∃x∈xs,R x y
 |_,_,_,.nil,h=>by cases h
 |x::xs,y'::ys,y,.cons r t,h=>by
  rcases ZX.mp h with e|h
  ·subst e;exact⟨x,ZG,r⟩
  ·obtain⟨x',m,q⟩:=tG t h;exact⟨x',ZK _ m,q⟩
theorem tH:∀{es:List (List U×Z_×V)} {xs:List (List U×Z_×ZR)},aeT QV es xs->es.map (·.1)=xs.map (·.1)
 |_,_,.nil=>rfl
 |_::_,_::_,.cons r t=>by rw[ZI,ZI,tH t,r.1]
theorem fx.of (ok:lB P w H h)(d:fx H a es):∃xs,aeT QV es xs/\h.DictOfH (tE P w) a xs:=by
 rcases d.ob with⟨ep,q⟩|⟨e,q⟩
 ·obtain⟨⟨_,o,ds,xs,h1,h2,h3,h4,h5⟩,_⟩:=ok a _ q;refine⟨xs,h4,o,ds,ep,h1,h2,h3,h5,λx hx=>?_,by rw[←tH h4];exact d.nd⟩;obtain⟨e,he,r⟩:=tG h4 hx;have:=(d.key e he).tk ok;rw[r.1,r.2.1] at this;exact this
 ·subst e;obtain⟨_,_,vs,rel,dd⟩:=ok a _ q;cases rel;obtain⟨o,ds,ep,h1,h2,h3,h4,h5,h6⟩:=dd;have e0:ds.toList=[]:=by
   generalize ds.toList=l at h5;cases h5;rfl
  exact⟨[],.nil,o,ds,ep,h1,h2,h3,by rw[e0];rfl,(λx hx=>by cases hx),abi⟩
theorem fx.lo (ok:lB P w H h)(d:fx H a es):(a==abC)=false:=by
 rcases d.ob with⟨ep,q⟩|⟨e,q⟩
 ·obtain⟨⟨l,_⟩,_⟩:=ok a _ q;exact l
 ·obtain⟨_,l,_⟩:=ok a _ q;exact l
def gN (es:List (List U×Z_×V))(k:List U):Option V:=(es.find? λe=>decide (e.1=k)).map (·.2.2)
def jP (es:List (List U×Z_×V))(k:List U)(b:Z_)(v:V):List (List U×Z_×V):=
 if (gN es k).isSome then es.map (λe=>if e.1=k then (e.1,e.2.1,v) else e) else es++[(k,b,v)]
theorem lF (k:List U):∀{es:List (List U×Z_×V)} {xs:List (List U×Z_×ZR)},aeT QV es xs->n9 (gN es k) ((atKey xs k).map (·.2))
 |_,_,.nil=>trivial
 |e::es,x::xs,.cons r t=>by
  have ih:=lF k t;unfold gN atKey at ih ⊢;rw[aaX,aaX];by_cases c:e.1=k
  ·have c':x.1=k:=by rw[←r.1];exact c
   rw[hG c,hG c'];exact r.2.2
  ·have c':¬x.1=k:=by rw[←r.1];exact c
   rw[hJ c,hJ c'];exact ih
theorem zf (k:List U){u:ZR}(rv:aZ v u){xs:List (List U×Z_×ZR)}(p:aeT QV es xs):aeT QV (jP es k b v) (storedH xs k b u):=by
 have e:(gN es k).isSome=(atKey xs k).isSome:=by
  have:=(lF k p).isSome_eq;rw[adS] at this;exact this
 unfold jP storedH;rw[e];split
 ·rename_i hh;clear hh e
  induction p with
  |nil=>exact .nil
  | @cons q x es xs r t ih=>
   refine .cons ?_ ih;unfold putAt;dsimp only;by_cases c:q.1=k
   ·have c':x.1=k:=by rw[←r.1];exact c
    rw[hZ c,hZ c'];exact⟨r.1,r.2.1,rv⟩
   ·have c':¬x.1=k:=by rw[←r.1];exact c
    rw[hV c,hV c'];exact r
 ·rename_i hh;clear hh e
  induction p with
  |nil=>exact .cons ⟨rfl,rfl,rv⟩ .nil
  |cons r t ih=>exact .cons r ih
section
variable {d:V}{r:ZR}{k:List U}{A:aaC}
theorem xn (hu:A.units+64<abo):(tE X.prog X.w).room A.in1:=by show A.units+1+20<abo;lia
theorem EV (hu:A.units+64<abo)(I:aL X pins σ H s)(g:fx H a es)(kb:vo H k b)(e:gN es k=some v)(h:∀w' s',aL X pins σ H s'->aZ v w'->Q w' s') :
  aac (aan X.prog X.w) A (getItem (.ref a) (.ref b)) Q E s:=by
 obtain⟨xs,rel,dd⟩:=g.of I.hok;obtain⟨w',hw,CA⟩:=n9.some_of (v:=v) (o:=(atKey xs k).map (·.2)) (by rw[←e];exact lF k rel);obtain⟨p,hp,yO⟩:=Option.map_eq_some_iff.mp hw;refine wpAny_getItem_heap (xn hu) (kb.tk I.hok) dd hp ?_;rw[yO];exact h w' _ (I.tok _) CA
theorem Kv (hu:A.units+64<abo)(I:aL X pins σ H s)(g:fx H a es)(kb:vo H k b)(h:∀s',aL X pins σ H s'->Q (.bool (!(gN es k).isSome)) s') :
  aac (aan X.prog X.w) A (abK .NotIn (.ref b) (.ref a)) Q E s:=by
 obtain⟨xs,rel,dd⟩:=g.of I.hok;refine wpAny_notIn_heap (xn hu) (kb.tk I.hok) (g.lo I.hok) dd ?_;have q:=(lF k rel).isSome_eq;rw[adS] at q;rw[←q];exact h _ (I.tok _)
theorem OV (hu:A.units+64<abo)(I:aL X pins σ H s)(g:fx H a es)(kb:vo H k b)(rd:aZ d r)(h:∀w' s',aL X pins σ H s'->aZ ((gN es k).getD d) w'->Q w' s') :
  aac (aan X.prog X.w) A (call (.builtin "dict.get") [.ref a,.ref b,r]) Q E s:=by
 obtain⟨xs,rel,dd⟩:=g.of I.hok;exact call_meetsIn acI dd.typeIs adL (adA _ _ _) (meetsH_dict_get_default (tE X.prog X.w) a b (g.lo I.hok) r) ⟨xn hu,k,xs,kb.tk I.hok,dd,h _ _ (I.tok _) ((lF k rel).getD rd)⟩
theorem fx.typeIs (I:aL X pins σ H s)(g:fx H a es):s.TypeIs (.ref a) "dict":=by
 obtain⟨xs,rel,dd⟩:=g.of I.hok;exact dd.typeIs
theorem fx.noDict (I:aL X pins σ H s)(g:fx H a es):∀b,Value.ref a=.ref b->∃ob,s.heap.get? b=some ob/\ob.dict=none:=λb q=>by
 cases q;obtain⟨xs,rel,ob,_,_,h1,h2,_⟩:=g.of I.hok;exact⟨ob,h1,h2.2.1⟩
theorem fx.mut (g:fx H a es):QU (H a):=by
 rcases g.ob with⟨ep,q⟩|⟨_,q⟩<;>(rw[q];exact True.intro)
theorem EW {Q:Unit->Z5->Prop}(hu:A.units+64<abo)(I:aL X pins σ H s)(g:fx H a es)(kb:vo H k b)(hz:es.length<=ZL)(rv:aZ v r)(h:∀ep s',aL X pins σ (cH H a (DN a ep (jP es k b v))) s'->Q () s') :
  aac (aan X.prog X.w) A (setItem (.ref a) (.ref b) r) Q E s:=by
 obtain⟨xs,rel,dd⟩:=g.of I.hok;refine wpAny_setItem_heap (hsz:=by rw[←adq rel];exact hz) (xn hu) (kb.tk I.hok) dd λh' N_ hs=>?_;obtain⟨q,ds,ep,hq,h2,h3,h4,_,h5⟩:=N_;refine h ep _ ?_;refine sv I g.mut hs ⟨q,hq⟩ ⟨⟨g.lo I.hok,q,ds,_,hq,h2,h3,zf k rv rel,h4⟩,⟨q,hq⟩,λg1 g2 ⟨l,o,ds,xs,z1,z2⟩ kp=>⟨l,o,ds,xs,kp _ z1,z2⟩⟩
end
end L2
namespace L2
def kU:Key->U
 | .inl i=>.int i
 | .inr x=>.str x
def xo (H:Hp)(a:Z_)(ks:List U)(xs:List V):Prop:=
 (∃bb:List (Key×V),H a=some (.dK bb)/\ks=bb.map (λp=>kU p.1)/\xs=bb.map (·.2)) \/
 ∃es:List (List U×Z_×V),es≠[]/\fx H a es/\ks=es.map (λp=>.tup p.1)/\xs=es.map (·.2.2)
abbrev RO:=xo
theorem xo.at (h:RO H a ks xs):xo H a ks xs:=h
theorem fx.ne (h:fx H a es)(n:es≠[]):∃ep,H a=some (DN a ep es):=by
 rcases h.ob with q|⟨e,_⟩
 ·exact q
 ·exact absurd e n
def Kw (K:ZN)(H:Hp)(a:Z_)(xs:List V):Prop:=(∃o,H a=some (.frz o (.lst xs))) \/
  ∃(o:Obj) (aD:Array ZR) (n:Nat),K.lookup a=some o/\o.cls=.type "list"/\o.dict=none/\o.data=.seq aD n/\aD.size<=ZL/\bg xs aD.toList
theorem Kw.sq (h:Kw K H a xs):fu K H a xs:=by
 rcases h with⟨o,h⟩|h
 ·exact .inl (.inr ⟨o,h⟩)
 ·exact .inr h
theorem Kw.to (h:Kw K H a xs)(e:∀o y,H a=some (.frz o y)->H' a=some (.frz o y)):Kw K H' a xs:=by
 rcases h with⟨o,h⟩|h
 ·exact .inl ⟨o,e _ _ h⟩
 ·exact .inr h
structure CO (K:ZN)(C:Z_)(fs:List Str):Prop where
 cl:Wu K C
 no:∀f∈fs,OE K C f
 nd:fs.Nodup
mutual
def Rp (K:ZN)(H:Hp)(A:Z_->Prop):U->V->Prop
 | .non,v=>v=.non
 | .bl b,v=>v=.bl b
 | .int i,v=>v=.int i
 | .str x,v=>v=.str x
 | .tup us,v=>∃a xs,v=.ref a/\H a=some (.tup xs)/\us.length<=ZL/\aH K H A us xs
 | .lst us,v=>∃a xs,v=.ref a/\¬A a/\H a=some (.lst xs)/\us.length<=ZL/\aH K H A us xs
 | .dct ks us,v=>∃a xs,v=.ref a/\¬A a/\xo H a ks xs/\us.length<=ZL/\aH K H A us xs
 | .scr us,v=>∃a xs,v=.ref a/\Kw K H a xs/\us.length<=ZL/\aH K H A us xs
 | .obj fs us,v=>∃a C dx xs,v=.ref a/\H a=some (.ins C dx (fs.zip xs))/\CO K C fs/\us.length=fs.length/\aH K H A us xs
def aH (K:ZN)(H:Hp)(A:Z_->Prop):List U->List V->Prop
 | [],xs=>xs=[]
 |u::us,xs=>∃x r,xs=x::r/\Rp K H A u x/\aH K H A us r
end
def k9 (K:ZN)(H:Hp)(A:Z_->Prop):U->Z_->Prop
 | .lst us,a=>∃xs,H a=some (.lst xs)/\us.length<=ZL/\aH K H A us xs
 | .dct ks us,a=>∃xs,RO H a ks xs/\us.length<=ZL/\aH K H A us xs
 |_,_=>False
def Pk (K:ZN)(H:Hp)(A:Z_->Prop):U->V->Prop
 | .non,v=>v=.non
 | .bl b,v=>v=.bl b
 | .int i,v=>v=.int i
 | .str x,v=>v=.str x
 | .tup us,v=>∃a xs,v=.ref a/\H a=some (.tup xs)/\us.length<=ZL/\aH K H A us xs
 | .lst us,v=>∃a xs,v=.ref a/\H a=some (.lst xs)/\us.length<=ZL/\aH K H A us xs
 | .dct ks us,v=>∃a xs,v=.ref a/\xo H a ks xs/\us.length<=ZL/\aH K H A us xs
 | .scr us,v=>∃a xs,v=.ref a/\Kw K H a xs/\us.length<=ZL/\aH K H A us xs
 | .obj fs us,v=>∃a C dx xs,v=.ref a/\H a=some (.ins C dx (fs.zip xs))/\CO K C fs/\us.length=fs.length/\aH K H A us xs
def Mu:Option HO->Prop
 |some (.lst _)=>True
 |some (.dK _)=>True
 |some (.dT _)=>True
 |some (.ext _)=>True
 |_=>False
theorem Mu.ex {o:Option HO}(h:Mu o):∃x,o=.some x:=by
 cases o with
 |none=>exact h.elim
 |some x=>exact⟨x,rfl⟩
def fZ (A:Z_->Prop)(H H':Hp):Prop:=∀b o,¬A b->H b=some o->H' b=some o
theorem fZ.refl:fZ A H H:=λ_ _ _ h=>h
theorem fZ.trans (a:fZ A H H1)(b:fZ A H1 H2):fZ A H H2:=λc o n h=>b c o n (a c o n h)
theorem fZ.same (h:aR H H'):fZ A H H':=λb o _ e=>h b o e
section
variable {A':Z_->Prop}
theorem xo.ex (h:xo H a ks xs):∃o,H a=some o:=by
 rcases h with⟨k,h,_⟩|⟨k,n,h,_⟩
 ·exact⟨_,h⟩
 ·obtain⟨ep,q⟩:=h.ne n;exact⟨_,q⟩
theorem xo.to (h:xo H a ks xs)(e:∀o,H a=some o->H' a=some o)(t:∀b ys,H b=some (.tup ys)->H' b=some (.tup ys)):xo H' a ks xs:=by
 rcases h with⟨k,h,z⟩|⟨k,n,h,z⟩
 ·exact .inl ⟨k,e _ h,z⟩
 ·exact .inr ⟨k,n,⟨h.ob.imp (fun⟨ep,q⟩=>⟨ep,e _ q⟩) (λq=>⟨q.1,e _ q.2⟩),h.nd,λy hy=>(h.key y hy).to t⟩,z⟩
mutual
theorem Rp.re (m:∀b,A b->Mu (H b))(e:fZ A H H')(n:∀b,A' b->A b\/H b=none):∀{u:U} {v:V},Rp K H A u v->Rp K H' A' u v
 | .non,v,h=>by unfold Rp at h ⊢;exact h
 | .bl b,v,h=>by unfold Rp at h ⊢;exact h
 | .int b,v,h=>by unfold Rp at h ⊢;exact h
 | .str b,v,h=>by unfold Rp at h ⊢;exact h
 | .tup us,v,h=>by
  unfold Rp at h ⊢;obtain⟨a,xs,r,q,l,z⟩:=h;exact⟨a,xs,r,e a _ (λz=>by have:=m a z;rw[q] at this;exact this) q,l,aH.re m e n z⟩
 | .lst us,v,h=>by
  unfold Rp at h ⊢;obtain⟨a,xs,r,na,q,l,z⟩:=h;refine⟨a,xs,r,λy=>?_,e a _ na q,l,aH.re m e n z⟩;rcases n a y with y|y
  ·exact na y
  ·rw[q] at y;cases y
 | .scr us,v,h=>by
  unfold Rp at h ⊢;obtain⟨a,xs,r,q,l,z⟩:=h;exact⟨a,xs,r,q.to λo y w=>e a _ (λz=>by have:=m a z;rw[w] at this;exact this) w,l,aH.re m e n z⟩
 | .obj fs us,v,h=>by
  unfold Rp at h ⊢;obtain⟨a,C,dx,xs,r,q,c,l,z⟩:=h;exact⟨a,C,dx,xs,r,e a _ (λz=>by have:=m a z;rw[q] at this;exact this) q,c,l,aH.re m e n z⟩
 | .dct ks us,v,h=>by
  unfold Rp at h ⊢;obtain⟨a,xs,r,na,q,l,z⟩:=h;refine⟨a,xs,r,λy=>?_,q.to (λo w=>e a o na w) (λb ys w=>e b _ (λy=>by have:=m b y;rw[w] at this;exact this) w),l,aH.re m e n z⟩;obtain⟨o,w⟩:=q.ex;rcases n a y with y|y
  ·exact na y
  ·rw[w] at y;cases y
theorem aH.re (m:∀b,A b->Mu (H b))(e:fZ A H H')(n:∀b,A' b->A b\/H b=none):∀{us:List U} {vs:List V},aH K H A us vs->aH K H' A' us vs
 | [],vs,h=>by unfold aH at h ⊢;exact h
 |u::us,vs,h=>by
  unfold aH at h ⊢;obtain⟨x,r,q,p,z⟩:=h;exact⟨x,r,q,Rp.re m e n p,aH.re m e n z⟩
end
mutual
theorem Rp.mono (n:∀b,A' b->A b):∀{u:U} {v:V},Rp K H A u v->Rp K H A' u v
 | .non,v,h=>by unfold Rp at h ⊢;exact h
 | .bl b,v,h=>by unfold Rp at h ⊢;exact h
 | .int b,v,h=>by unfold Rp at h ⊢;exact h
 | .str b,v,h=>by unfold Rp at h ⊢;exact h
 | .tup us,v,h=>by
  unfold Rp at h ⊢;obtain⟨a,xs,r,q,l,z⟩:=h;exact⟨a,xs,r,q,l,aH.mono n z⟩
 | .lst us,v,h=>by
  unfold Rp at h ⊢;obtain⟨a,xs,r,na,q,l,z⟩:=h;exact⟨a,xs,r,λy=>na (n a y),q,l,aH.mono n z⟩
 | .scr us,v,h=>by
  unfold Rp at h ⊢;obtain⟨a,xs,r,q,l,z⟩:=h;exact⟨a,xs,r,q,l,aH.mono n z⟩
 | .obj fs us,v,h=>by
  unfold Rp at h ⊢;obtain⟨a,C,dx,xs,r,q,c,l,z⟩:=h;exact⟨a,C,dx,xs,r,q,c,l,aH.mono n z⟩
 | .dct ks us,v,h=>by
  unfold Rp at h ⊢;obtain⟨a,xs,r,na,q,l,z⟩:=h;exact⟨a,xs,r,λy=>na (n a y),q,l,aH.mono n z⟩
theorem aH.mono (n:∀b,A' b->A b):∀{us:List U} {vs:List V},aH K H A us vs->aH K H A' us vs
 | [],vs,h=>by unfold aH at h ⊢;exact h
 |u::us,vs,h=>by
  unfold aH at h ⊢;obtain⟨x,r,q,p,z⟩:=h;exact⟨x,r,q,Rp.mono n p,aH.mono n z⟩
end
mutual
theorem Rp.same (e:aR H H'):∀{u:U} {v:V},Rp K H A u v->Rp K H' A u v
 | .non,v,h=>by unfold Rp at h ⊢;exact h
 | .bl b,v,h=>by unfold Rp at h ⊢;exact h
 | .int b,v,h=>by unfold Rp at h ⊢;exact h
 | .str b,v,h=>by unfold Rp at h ⊢;exact h
 | .tup us,v,h=>by
  unfold Rp at h ⊢;obtain⟨a,xs,r,q,l,z⟩:=h;exact⟨a,xs,r,e a _ q,l,aH.same e z⟩
 | .lst us,v,h=>by
  unfold Rp at h ⊢;obtain⟨a,xs,r,na,q,l,z⟩:=h;exact⟨a,xs,r,na,e a _ q,l,aH.same e z⟩
 | .scr us,v,h=>by
  unfold Rp at h ⊢;obtain⟨a,xs,r,q,l,z⟩:=h;exact⟨a,xs,r,q.to λo y w=>e a _ w,l,aH.same e z⟩
 | .obj fs us,v,h=>by
  unfold Rp at h ⊢;obtain⟨a,C,dx,xs,r,q,c,l,z⟩:=h;exact⟨a,C,dx,xs,r,e a _ q,c,l,aH.same e z⟩
 | .dct ks us,v,h=>by
  unfold Rp at h ⊢;obtain⟨a,xs,r,na,q,l,z⟩:=h;exact⟨a,xs,r,na,q.to (λo w=>e a o w) (λb ys w=>e b _ w),l,aH.same e z⟩
theorem aH.same (e:aR H H'):∀{us:List U} {vs:List V},aH K H A us vs->aH K H' A us vs
 | [],vs,h=>by unfold aH at h ⊢;exact h
 |u::us,vs,h=>by
  unfold aH at h ⊢;obtain⟨x,r,q,p,z⟩:=h;exact⟨x,r,q,Rp.same e p,aH.same e z⟩
end
theorem aH.length:∀{us:List U} {vs:List V},aH K H A us vs->us.length=vs.length
 | [],_,h=>by unfold aH at h;subst h;rfl
 |u::us,_,h=>by
  unfold aH at h;obtain⟨x,r,rfl,_,q⟩:=h;rw[Z0,Z0,aH.length q]
theorem aH.get:∀{us:List U} {vs:List V} {i:Nat} {u:U},aH K H A us vs->us[i]? = some u->∃v,vs[i]? = some v/\Rp K H A u v
 | [],_,_,_,_,e=>by simp at e
 |w::us,_,i,u,h,e=>by
  unfold aH at h;obtain⟨x,r,rfl,p,q⟩:=h;cases i with
  |zero=>simp at e;subst e;exact⟨x,by simp,p⟩
  |succ i=>
   obtain⟨v,a,b⟩:=aH.get q (i:=i) (by simpa using e);exact⟨v,by simpa using a,b⟩
theorem aH.nil:aH K H A [] []:=by unfold aH;rfl
theorem aH.cons (h:Rp K H A u v)(t:aH K H A us vs):aH K H A (u::us) (v::vs):=by unfold aH;exact⟨v,vs,rfl,h,t⟩
theorem aH.append:∀{us ws:List U} {vs xs:List V},aH K H A us vs->aH K H A ws xs->aH K H A (us++ws) (vs++xs)
 | [],ws,vs,xs,h,t=>by unfold aH at h;subst h;exact t
 |u::us,ws,vs,xs,h,t=>by
  unfold aH at h;obtain⟨x,r,rfl,p,q⟩:=h;exact aH.cons p (aH.append q t)
theorem aH.set:∀{us:List U} {vs:List V} (n:Nat) {u:U} {v:V},Rp K H A u v->aH K H A us vs->aH K H A (us.set n u) (vs.set n v)
 | [],vs,n,_,_,_,h=>by unfold aH at h;subst h;simp;exact aH.nil
 |u::us,vs,0,_,_,p',h=>by
  unfold aH at h;obtain⟨x,r,rfl,p,q⟩:=h;exact aH.cons p' q
 |u::us,vs,n+1,_,_,p',h=>by
  unfold aH at h;obtain⟨x,r,rfl,p,q⟩:=h;exact aH.cons p (aH.set n p' q)
theorem Rp.pk (h:Rp K H A u v):Pk K H A u v:=by
 cases u<;>(unfold Rp at h;unfold Pk)
 case lst us=>obtain⟨a,xs,r,na,q⟩:=h;exact⟨a,xs,r,q⟩
 case dct ks us=>obtain⟨a,xs,r,na,q⟩:=h;exact⟨a,xs,r,q⟩
 all_goals exact h
theorem Pk.same (e:aR H H')(h:Pk K H A u v):Pk K H' A u v:=by
 cases u<;>(unfold Pk at h ⊢)
 case tup us=>obtain⟨a,xs,r,q,l,z⟩:=h;exact⟨a,xs,r,e a _ q,l,z.same e⟩
 case lst us=>obtain⟨a,xs,r,q,l,z⟩:=h;exact⟨a,xs,r,e a _ q,l,z.same e⟩
 case scr us=>obtain⟨a,xs,r,q,l,z⟩:=h;exact⟨a,xs,r,q.to λo y w=>e a _ w,l,z.same e⟩
 case obj fs us=>obtain⟨a,C,dx,xs,r,q,c,l,z⟩:=h;exact⟨a,C,dx,xs,r,e a _ q,c,l,z.same e⟩
 case dct ks us=>obtain⟨a,xs,r,q,l,z⟩:=h;exact⟨a,xs,r,q.to (λo w=>e a o w) (λb ys w=>e b _ w),l,z.same e⟩
 all_goals exact h
theorem k9.pk (h:k9 K H A u a):Pk K H A u (.ref a):=by
 cases u<;>(unfold k9 at h;unfold Pk)
 case lst us=>obtain⟨xs,q,l,z⟩:=h;exact⟨a,xs,rfl,q,l,z⟩
 case dct ks us=>obtain⟨xs,q,l,z⟩:=h;exact⟨a,xs,rfl,q.at,l,z⟩
 all_goals exact h.elim
theorem k9.rp (h:k9 K H A u a)(n:∀b,A' b->A b)(na:¬A' a):Rp K H A' u (.ref a):=by
 cases u<;>(unfold k9 at h;unfold Rp)
 case lst us=>obtain⟨xs,q,l,z⟩:=h;exact⟨a,xs,rfl,na,q,l,z.mono n⟩
 case dct ks us=>obtain⟨xs,q,l,z⟩:=h;exact⟨a,xs,rfl,na,q.at,l,z.mono n⟩
 all_goals exact h.elim
theorem k9.re (m:∀b,A b->Mu (H b))(e:fZ A H H')(n:∀b,A' b->A b\/H b=none)(ea:∀o,H a=some o->H' a=some o)(h:k9 K H A u a):k9 K H' A' u a:=by
 cases u<;>(unfold k9 at h ⊢)
 case lst us=>obtain⟨xs,q,l,z⟩:=h;exact⟨xs,ea _ q,l,z.re m e n⟩
 case dct ks us=>obtain⟨xs,q,l,z⟩:=h;exact⟨xs,q.to ea (λb ys w=>e b _ (λy=>by have:=m b y;rw[w] at this;exact this) w),l,z.re m e n⟩
 all_goals exact h.elim
theorem k9.mu (h:k9 K H A u a):Mu (H a):=by
 cases u<;>(unfold k9 at h)
 case lst us=>obtain⟨xs,q,_⟩:=h;rw[q];trivial
 case dct ks us=>
  obtain⟨xs,q,_⟩:=h;rcases q with⟨k,q,_⟩|⟨k,n,q,_⟩
  ·rw[q];trivial
  ·obtain⟨ep,q⟩:=q.ne n;rw[q];trivial
 all_goals exact h.elim
end
structure Pkg where
 A0:Z_->Prop
 B:Hp
 a0:Z_
structure Gm where
 own:List Bool
 io:Bool
 W:Hp->Prop
def Gm.is (G:Gm)(i:Nat):Bool:=G.own.getD i false
structure cT (K:ZN)(G:Gm)(Z:Pkg)(A:Z_->Prop)(ρ:Ev)(σ:St)(H:Hp):Prop where
 slot:∀i u,ρ[i]? = some (some u)->∃v,σ[i]? = some (some v)/\if G.is i=true then (∃a,v=.ref a/\A a/\Z.B a=none/\(¬Z.A0 a\/(G.io=true/\i=0))/\k9 K H A u a) else Rp K H A u v
 dis:∀i j u w a,G.is i=true->G.is j=true->i≠j->ρ[i]? = some (some u)->ρ[j]? = some (some w)->σ[i]? = some (some (.ref a))->σ[j]? = some (some (.ref a))->False
 mu:∀a,A a->Mu (H a)
 sup:∀a,Z.A0 a->A a
 out:∀a,A a->Z.A0 a\/Z.B a=none
 bas:∀a o,Z.B a=some o->H a=some o
 io0:G.io=true->σ[0]? = some (some (.ref Z.a0))/\G.is 0=true
 len:ρ.length=σ.length
section
variable {A':Z_->Prop}{G:Gm}{Z:Pkg}{ρ':Ev}
theorem cT.same (r:cT K G Z A ρ σ H)(e:aR H H'):cT K G Z A ρ σ H' where
 slot:=λi u h=>by
  obtain⟨v,h1,h2⟩:=r.slot i u h;refine⟨v,h1,?_⟩;by_cases c:G.is i=true
  ·rw[hZ c] at h2 ⊢;obtain⟨a,e1,e2,e3,e4,e5⟩:=h2;exact⟨a,e1,e2,e3,e4,e5.re r.mu (fZ.same e) (λb z=>.inl z) λo w=>e a o w⟩
  ·rw[hV c] at h2 ⊢;exact h2.same e
 dis:=r.dis
 mu:=λa h=>by
  have m:=r.mu a h;obtain⟨o,q⟩:=m.ex;rw[e a o q,←q];exact m
 sup:=r.sup
 out:=r.out
 bas:=λa o h=>e a o (r.bas a o h)
 io0:=r.io0
 len:=r.len
theorem cT.add (r:cT K G Z A ρ σ H)(e:aR H H')(n:H a=none)(m:Mu (H' a)):cT K G Z (λb=>A b\/b=a) ρ σ H' where
 slot:=λi u h=>by
  have q:∀b,(A b\/b=a)->A b\/H b=none:=λb z=>by
   rcases z with z|z
   ·exact .inl z
   ·subst z;exact .inr n
  obtain⟨v,h1,h2⟩:=r.slot i u h;refine⟨v,h1,?_⟩;by_cases c:G.is i=true
  ·rw[hZ c] at h2 ⊢;obtain⟨b,e1,e2,e3,e4,e5⟩:=h2;exact⟨b,e1,.inl e2,e3,e4,e5.re r.mu (fZ.same e) q λo w=>e b o w⟩
  ·rw[hV c] at h2 ⊢;exact h2.re r.mu (fZ.same e) q
 dis:=r.dis
 mu:=λb h=>by
  rcases h with h|h
  ·exact (r.same e).mu b h
  ·subst h;exact m
 sup:=λb h=>.inl (r.sup b h)
 out:=λb h=>by
  rcases h with h|h
  ·exact r.out b h
  ·subst h;refine .inr ?_;cases q:Z.B b with
   |none=>rfl
   |some o=>rw[r.bas b o q] at n;cases n
 bas:=λa o h=>e a o (r.bas a o h)
 io0:=r.io0
 len:=r.len
theorem cT.notA (r:cT K G Z A ρ σ H)(n:H a=none):¬A a:=λz=>by
 have:=r.mu a z;rw[n] at this;exact this
theorem cT.notB (r:cT K G Z A ρ σ H)(n:H a=none):Z.B a=none:=by
 cases q:Z.B a with
 |none=>rfl
 |some o=>rw[r.bas a o q] at n;cases n
theorem cT.val (r:cT K G Z A ρ σ H)(c:G.is i=false)(h:ρ[i]? = some (some u)):∃v,σ[i]? = some (some v)/\Rp K H A u v:=by
 obtain⟨v,h1,h2⟩:=r.slot i u h;rw[hV (by rw[c];exact ZM)] at h2;exact⟨v,h1,h2⟩
theorem cT.own (r:cT K G Z A ρ σ H)(c:G.is i=true)(h:ρ[i]? = some (some u)):∃a,σ[i]? = some (some (.ref a))/\A a/\Z.B a=none/\(¬Z.A0 a\/(G.io=true/\i=0))/\k9 K H A u a:=by
 obtain⟨v,h1,h2⟩:=r.slot i u h;rw[hZ c] at h2;obtain⟨a,rfl,z⟩:=h2;exact⟨a,h1,z⟩
end
end L2
variable {Z:L2.Pkg}{G:L2.Gm}
namespace L2
inductive Md where
 |S|O|P
 deriving DecidableEq
def AW (K:ZN)(G:Gm)(Z:Pkg)(m:Md)(A:Z_->Prop)(ρ:Ev)(σ:St)(H:Hp)(u:U)(v:V):Prop:=match m with
 | .S=>Rp K H A u v
 | .P=>Pk K H A u v
 | .O=>∃a,v=.ref a/\¬A a/\Z.B a=none/\cT K G Z (λb=>A b\/b=a) ρ σ H/\k9 K H (λb=>A b\/b=a) u a
def FV (K:ZN)(m:Md)(A:Z_->Prop)(H H':Hp)(u:U)(v:V):Prop:=match m with
 | .S=>Rp K H' A u v
 | .P=>Pk K H' A u v
 | .O=>∃a,v=.ref a/\H a=none/\k9 K H' (λb=>A b\/b=a) u a
def Kx (K:ZN)(G:Gm)(Z:Pkg)(A:Z_->Prop)(b:Bool)(m:Md)(ρ:Ev)(σ:St)(H:Hp):R (U×Ev)->VK->Prop
 | .ok (u,ρ'),Q=>∀v H',cT K G Z A ρ' σ H'->fZ A H H'->(b=false->ρ'=ρ/\aR H H')->AW K G Z m A ρ' σ H' u v->Q v H'
 |_,_=>False
def tD (K:ZN)(G:Gm)(b:Bool)(m:Md)(g:Ev->R (U×Ev)):TE:=λσ H Q=>∃Z A ρ,cT K G Z A ρ σ H/\Kx K G Z A b m ρ σ H (g ρ) Q
structure DE (X:Cx)(G:Gm)(e:abH)(b:Bool)(m:Md)(g:Ev->R (U×Ev)):Prop where
 un:PE X e (tD X.K G b m g)
def Ky (K:ZN)(G:Gm)(Z:Pkg)(A:Z_->Prop)(b:Bool)(ρ:Ev)(σ:St)(H:Hp):R (Bool×Ev)->(Bool->Hp->Prop)->Prop
 | .ok (c,ρ'),Q=>∀H',cT K G Z A ρ' σ H'->fZ A H H'->(b=false->ρ'=ρ/\aR H H')->Q c H'
 |_,_=>False
def FW (K:ZN)(G:Gm)(b:Bool)(g:Ev->R (Bool×Ev)):TT:=λσ H Q=>∃Z A ρ,cT K G Z A ρ σ H/\Ky K G Z A b ρ σ H (g ρ) Q
structure DT (X:Cx)(G:Gm)(e:abH)(b:Bool)(g:Ev->R (Bool×Ev)):Prop where
 un:PT X e (FW X.K G b g)
def Bm (K:ZN)(H:Hp)(A:Z_->Prop):List U->List V->Prop
 | [],vs=>vs=[]
 |u::us,vs=>∃x r,vs=x::r/\Pk K H A u x/\Bm K H A us r
def Kz (K:ZN)(p:Bool)(A:Z_->Prop)(H:Hp)(us:List U)(vs:List V):Prop:=if p=true then Bm K H A us vs else aH K H A us vs
def KA (K:ZN)(G:Gm)(Z:Pkg)(A:Z_->Prop)(b p:Bool)(ρ:Ev)(σ:St)(H:Hp):R (List U×Ev)->(List V->Hp->Prop)->Prop
 | .ok (us,ρ'),Q=>∀vs H',cT K G Z A ρ' σ H'->fZ A H H'->(b=false->ρ'=ρ/\aR H H')->Kz K p A H' us vs->Q vs H'
 |_,_=>False
def Vc (K:ZN)(G:Gm)(b p:Bool)(g:Ev->R (List U×Ev)):TA:=λσ H Q=>∃Z A ρ,cT K G Z A ρ σ H/\KA K G Z A b p ρ σ H (g ρ) Q
structure DA (X:Cx)(G:Gm)(es:List abH)(b p:Bool)(g:Ev->R (List U×Ev)):Prop where
 un:PA X es (Vc X.K G b p g)
section
variable {e:abH}{t t':TE}
theorem PE.to (h:PE X e t)(i:∀σ H Q,t' σ H Q->t σ H Q):PE X e t':=λpins s σ H Q I q=>h pins s σ H Q I (i _ _ _ q)
theorem PT.to {t t':TT}(h:PT X e t)(i:∀σ H Q,t' σ H Q->t σ H Q):PT X e t':=λpins s σ H Q I q=>h pins s σ H Q I (i _ _ _ q)
theorem PW.to {t t':TT}(h:PW X e t)(i:∀σ H Q,t' σ H Q->t σ H Q):PW X e t':=λwhole pins s σ H Q I q=>h whole pins s σ H Q I (i _ _ _ q)
theorem PA.to {es:List abH}{t t':TA}(h:PA X es t)(i:∀σ H Q,t' σ H Q->t σ H Q):PA X es t':=λpos pins s σ H Q I q=>h pos pins s σ H Q I (i _ _ _ q)
theorem PS.to {t t':TS}(h:PS X st t)(i:∀D σ H,t' D σ H->t D σ H):PS X st t':=λpins s σ H D I q=>h pins s σ H D I (i _ _ _ q)
theorem vt.to {st:List adh}{t t':TS}(h:vt X st t)(i:∀D σ H,t' D σ H->t D σ H):vt X st t':=λpins s σ H D I q=>h pins s σ H D I (i _ _ _ q)
theorem PG.to {t t':TG}(h:PG X e t)(i:∀v σ H Q,t' v σ H Q->t v σ H Q):PG X e t':=λpins s σ H v u Q I r q=>h pins s σ H v u Q I r (i _ _ _ _ q)
end
section
variable {A':Z_->Prop}{ρ':Ev}{m:Md}{b:Bool}
theorem AW.rp (h:AW K G Z m A ρ σ H u v)(n:m≠.P):Rp K H A u v:=by
 cases m with
 |S=>exact h
 |O=>
  obtain⟨a,rfl,na,_,_,t⟩:=h;exact t.rp (λb z=>.inl z) na
 |P=>exact absurd rfl n
theorem AW.pk (h:AW K G Z m A ρ σ H u v):Pk K H A u v:=by
 by_cases c:m=.P
 ·subst c;exact h
 ·exact (h.rp c).pk
theorem FV.e (r:cT K G Z A ρ σ H)(s:aR H H')(h:FV K m A H H' u v):AW K G Z m A ρ σ H' u v:=by
 cases m with
 |S=>exact h
 |P=>exact h
 |O=>
  obtain⟨a,rfl,n,t⟩:=h;exact⟨a,rfl,r.notA n,r.notB n,r.add s n t.mu,t⟩
theorem AW.later (r:cT K G Z A ρ σ H)(h:AW K G Z m A ρ σ H u v)(x:fZ A H H')(s:b=false->ρ'=ρ/\aR H H')(c:m=.P->b=false):Pk K H' A u v:=by
 by_cases d:m=.P
 ·exact h.pk.same (s (c d)).2
 ·exact ((h.rp d).re r.mu x λb z=>.inl z).pk
theorem AW.laterS (r:cT K G Z A ρ σ H)(h:AW K G Z m A ρ σ H u v)(x:fZ A H H')(d:m≠.P):Rp K H' A u v:=(h.rp d).re r.mu x λb z=>.inl z
theorem two {b1 b2:Bool}{ρ1 ρ2:Ev}(h1:b1=false->ρ1=ρ/\aR H H1)(h2:b2=false->ρ2=ρ1/\aR H1 H2):(b1||b2)=false->ρ2=ρ/\aR H H2:=λh=>by
 rw[ach] at h;obtain⟨a,b⟩:=h1 h.1;obtain⟨c,d⟩:=h2 h.2;exact⟨c.trans a,b.trans d⟩
theorem vA {b1:Bool}{ρ1:Ev}(h1:b1=false->ρ1=ρ/\aR H H1)(h2:aR H1 H2):b1=false->ρ1=ρ/\aR H H2:=λh=>⟨(h1 h).1,(h1 h).2.trans h2⟩
end
def ag (i:Nat):Ev->R (U×Ev):=λρ=>match ρ[i]? with
 |some (some u)=>.ok (u,ρ)
 |_=>.stk
def gC (u:U):Ev->R (U×Ev):=λρ=>.ok (u,ρ)
section
variable {e a b:abH}{es:List abH}{pos:Pos}
theorem RP {b:Bool}{m:Md}(h:PE X e (Kb i))(c:G.is i=false):DE X G e false .S (ag i):=by
 refine⟨h.to λσ H Q ⟨Z,A,ρ,r,f⟩=>?_⟩;unfold ag at f;split at f
 ·rename_i u hu;obtain⟨v,h1,h2⟩:=r.val c hu;exact⟨v,h1,f v H r fZ.refl (λ_=>⟨rfl,aR.refl _⟩) h2⟩
 ·exact f.elim
theorem aj (i:Nat)(hN:X.N[i]? = some x:=by rfl)(hv:A8 X.env.scope x:=by first|exact Or.inl rfl|exact Or.inr (Or.inl rfl)|exact Or.inr (Or.inr rfl))(hd:(x==("__debug__":Str))=false:=by decide)
  (ly:(x==("__classdict__":Str))=false:=by decide) (c:G.is i=false:=by rfl):DE X G (.Name x pos) false .S (ag i):=RP (b:=false) (m:=.S) (f6 hN hv hd ly) c
theorem fJ (i:Nat)(hN:X.N[i]? = some x:=by rfl)(hv:A8 X.env.scope x:=by first|exact Or.inl rfl|exact Or.inr (Or.inl rfl)|exact Or.inr (Or.inr rfl))(hd:(x==("__debug__":Str))=false:=by decide)
  (ly:(x==("__classdict__":Str))=false:=by decide) (c:G.is i=true:=by rfl):DE X G (.Name x pos) false .P (ag i):=by
 refine⟨(f6 hN hv hd ly).to λσ H Q ⟨Z,A,ρ,r,f⟩=>?_⟩;unfold ag at f;split at f
 ·rename_i u hu;obtain⟨a,h1,_,_,_,h2⟩:=r.own c hu;exact⟨.ref a,h1,f _ H r fZ.refl (λ_=>⟨rfl,aR.refl _⟩) h2.pk⟩
 ·exact f.elim
theorem KC (h:PE X e (tC v))(r:∀K H A,Rp K H A u v):DE X G e false .S (gC u):=by
 refine⟨h.to λσ H Q ⟨Z,A,ρ,q,f⟩=>?_⟩;exact f v H q fZ.refl (λ_=>⟨rfl,aR.refl _⟩) (r _ _ _)
theorem ar {i j pos}:DE X G (.Constant (.int i) j pos) false .S (gC (.int i)):=KC F4 λ_ _ _=>by unfold Rp;rfl
theorem ox {i j pos}:DE X G (.Constant (.bool i) j pos) false .S (gC (.bl i)):=KC Q8 λ_ _ _=>by unfold Rp;rfl
theorem cq {j pos}:DE X G (.Constant .none j pos) false .S (gC .non):=KC Om λ_ _ _=>by unfold Rp;rfl
theorem nC {i j pos}:DE X G (.Constant (.str i) j pos) false .S (gC (.str i)):=KC Oo λ_ _ _=>by unfold Rp;rfl
def aU (p:U->U->R U)(g1 g2:Ev->R (U×Ev)):Ev->R (U×Ev):=λρ=>(g1 ρ).bind λx=>(g2 x.2).bind λy=>(p x.1 y.1).bind λz=>.ok (z,y.2)
def ig (K:ZN)(r:R2)(m:Md)(p:U->U->R U):Prop:=∀A H x y u w z Q,Pk K H A u x->Pk K H A w y->(∀a,A a->Mu (H a))->p u w=.ok z->(∀v H',aR H H'->FV K m A H H' z v->Q v H')->r x y H Q
variable {b1 b2 b3:Bool}{m1 m2 m3 mr:Md}{g1 g2 g3:Ev->R (U×Ev)}
theorem oy {p:U->U->R U}(hp:ig X.K r mr p)(hm:m1=.P->b2=false){Q:VK}(h:tD X.K G (b1||b2) mr (aU p g1 g2) σ H Q) :
  Rj r (tD X.K G b1 m1 g1) (tD X.K G b2 m2 g2) σ H Q:=by
 obtain⟨Z,A,ρ,q,f⟩:=h;unfold aU at f;refine⟨Z,A,ρ,q,?_⟩;cases e1:g1 ρ with
 |stk=>rw[e1] at f;exact f.elim
 |exc=>rw[e1] at f;exact f.elim
 |ok x=>
  obtain⟨u,ρ1⟩:=x;rw[e1] at f;intro v1 H1 q1 x1 s1 vq;refine⟨Z,A,ρ1,q1,?_⟩;cases e2:g2 ρ1 with
  |stk=>simp only[R.bind,e2] at f;exact f.elim
  |exc=>simp only[R.bind,e2] at f;exact f.elim
  |ok y=>
   obtain⟨w,ρ2⟩:=y;simp only[R.bind,e2] at f;intro v2 H2 q2 x2 s2 pD;cases e3:p u w with
   |stk=>rw[e3] at f;exact f.elim
   |exc=>rw[e3] at f;exact f.elim
   |ok z=>
    rw[e3] at f;refine hp A H2 v1 v2 u w z Q (vq.later q1 x2 s2 hm) pD.pk q2.mu e3 λv H' sm vm=>?_;exact f v H' (q2.same sm) ((x1.trans x2).trans (fZ.same sm)) (vA (two s1 s2) sm) (vm.e q2 sm)
theorem bo {op:Operator}{p:U->U->R U}(ho:lC X (acS op) r)(hp:ig X.K r mr p)(ha:DE X G a b1 m1 g1)(hb:DE X G b b2 m2 g2)(hm:m1=.P->b2=false:=by first|exact λ_=>rfl|exact λh=>nomatch h) :
  DE X G (.BinOp a op b pos) (b1||b2) mr (aU p g1 g2):=⟨(Rk ho ha.un hb.un).to λ_ _ _=>oy hp hm⟩
theorem GF {p:U->U->R U}(ho:lC X (abK op) r)(hp:ig X.K r mr p)(ha:DE X G a b1 m1 g1)(hb:DE X G b b2 m2 g2)(hk:acT op b=false)(hm:m1=.P->b2=false:=by first|exact λ_=>rfl|exact λh=>nomatch h) :
  DE X G (.Compare a [op] [b] pos) (b1||b2) mr (aU p g1 g2):=⟨(Kj ho ha.un hb.un hk).to λ_ _ _=>oy hp hm⟩
theorem aW {p:U->U->R U}(ho:JX X r)(hp:ig X.K r mr p)(ha:DE X G a b1 m1 g1)(hb:DE X G b b2 m2 g2)(hs:CN b)(hm:m1=.P->b2=false:=by first|exact λ_=>rfl|exact λh=>nomatch h) :
  DE X G (.Subscript a b pos) (b1||b2) mr (aU p g1 g2):=⟨(Rz ho ha.un hb.un hs).to λ_ _ _=>oy hp hm⟩
def gB (g:Ev->R (U×Ev)):Ev->R (Bool×Ev):=λρ=>(g ρ).bind λx=>match x.1 with
 | .bl c=>.ok (c,x.2)
 |_=>.stk
theorem wd {g:Ev->R (U×Ev)}{m:Md}{Q:Bool->Hp->Prop}(h:FW X.K G b1 (gB g) σ H Q):tD X.K G b1 m g σ H λx H'=>∃k,x=.bl k/\Q k H':=by
 obtain⟨Z,A,ρ,q,f⟩:=h;refine⟨Z,A,ρ,q,?_⟩;unfold gB at f;cases e1:g ρ with
 |stk=>rw[e1] at f;exact f.elim
 |exc=>rw[e1] at f;exact f.elim
 |ok x=>
  obtain⟨u,ρ1⟩:=x;rw[e1] at f;intro v H1 q1 x1 s1 vm;cases u with
  |bl c=>
   have e:v=.bl c:=by have:=vm.pk;unfold Pk at this;exact this
   exact⟨c,e,f H1 q1 x1 s1⟩
  |_=>exact f.elim
theorem tJ (h:DE X G e b1 m1 g1)(he:∀whole,isTrue e X.env whole=(do let v ←whole;standAt e.pos;adi [v] (truthy v)):=by intro _;rfl):DT X G e b1 (gB g1):=⟨(Oq h.un he).to λ_ _ _ h=>wd h⟩
theorem bF {p:U->U->R U}(ho:lC X (abK op) r)(hp:ig X.K r mr p)(ha:DE X G a b1 m1 g1)(hb:DE X G b b2 m2 g2)(hk:acT op b=false)(hm:m1=.P->b2=false:=by first|exact λ_=>rfl|exact λh=>nomatch h) :
  DT X G (.Compare a [op] [b] pos) (b1||b2) (gB (aU p g1 g2)):=⟨(CL ho ha.un hb.un hk).to λ_ _ _ h=>oy hp hm (wd (m:=mr) h)⟩
end
end L2
namespace L2
section
variable {A':Z_->Prop}{ρ':Ev}{b p:Bool}{m:Md}{α:Type}
theorem Kx.bind {x:R α}{k:α->R (U×Ev)}{Q:VK}(f:Kx K G Z A b m ρ σ H (x.bind k) Q):∃a,x=.ok a/\Kx K G Z A b m ρ σ H (k a) Q:=by
 cases x with
 |ok a=>exact⟨a,rfl,f⟩
 |exc=>exact f.elim
 |stk=>exact f.elim
theorem Ky.bind {x:R α}{k:α->R (Bool×Ev)}{Q:Bool->Hp->Prop}(f:Ky K G Z A b ρ σ H (x.bind k) Q):∃a,x=.ok a/\Ky K G Z A b ρ σ H (k a) Q:=by
 cases x with
 |ok a=>exact⟨a,rfl,f⟩
 |exc=>exact f.elim
 |stk=>exact f.elim
theorem KA.bind {x:R α}{k:α->R (List U×Ev)}{Q:List V->Hp->Prop}(f:KA K G Z A b p ρ σ H (x.bind k) Q):∃a,x=.ok a/\KA K G Z A b p ρ σ H (k a) Q:=by
 cases x with
 |ok a=>exact⟨a,rfl,f⟩
 |exc=>exact f.elim
 |stk=>exact f.elim
theorem Pk.bl {c:Bool}(h:Pk K H A (.bl c) v):v=.bl c:=by unfold Pk at h;exact h
theorem Pk.int {i:Int}(h:Pk K H A (.int i) v):v=.int i:=by unfold Pk at h;exact h
theorem Pk.str {i:Str}(h:Pk K H A (.str i) v):v=.str i:=by unfold Pk at h;exact h
theorem j2 {c:Bool}:Rp K H A (.bl c) (.bl c):=by unfold Rp;rfl
theorem dN {c:Int}:Rp K H A (.int c) (.int c):=by unfold Rp;rfl
theorem AW.ofS (h:Rp K H A u v):AW K G Z .S A ρ σ H u v:=h
theorem tK:Rp K H A .non .non:=by unfold Rp;rfl
theorem OW {c:Str}:Rp K H A (.str c) (.str c):=by unfold Rp;rfl
theorem aH.pks:∀{us:List U} {vs:List V},aH K H A us vs->Bm K H A us vs
 | [],_,h=>by unfold aH at h;unfold Bm;exact h
 |u::us,_,h=>by
  unfold aH at h;unfold Bm;obtain⟨x,r,e,z,q⟩:=h;exact⟨x,r,e,z.pk,aH.pks q⟩
end
section
variable {e a b:abH}{es rest:List abH}{pos:Pos}{b1 b2 b3:Bool}{m1 m2 m3 mr:Md}{g1 g2 g3:Ev->R (U×Ev)}{h1 h2:Ev->R (Bool×Ev)}
def zg (g1 g2:Ev->R (Bool×Ev)):Ev->R (Bool×Ev):=λρ=>(g1 ρ).bind λx=>if x.1=true then g2 x.2 else .ok (false,x.2)
def MK (g1 g2:Ev->R (Bool×Ev)):Ev->R (Bool×Ev):=λρ=>(g1 ρ).bind λx=>if x.1=true then .ok (true,x.2) else g2 x.2
def Bn (g1:Ev->R (Bool×Ev)):Ev->R (Bool×Ev):=λρ=>(g1 ρ).bind λx=>.ok (!x.1,x.2)
structure DW (X:Cx)(G:Gm)(e:abH)(b:Bool)(g:Ev->R (Bool×Ev)):Prop where
 un:PW X e (FW X.K G b g)
theorem DW.dt (h:DW X G e b1 h1):DT X G e b1 h1:=⟨PW.pt h.un⟩
theorem GG {Q:Bool->Hp->Prop}(h:FW X.K G (b1||b2) (zg h1 h2) σ H Q):Q9 (FW X.K G b1 h1) (FW X.K G b2 h2) σ H Q:=by
 obtain⟨Z,A,ρ,q,f⟩:=h;obtain⟨⟨k,ρ1⟩,e1,f⟩:=f.bind;refine⟨Z,A,ρ,q,?_⟩;rw[e1];intro H1 q1 x1 s1;cases k with
 |true=>
  rw[hZ rfl] at f ⊢;refine⟨Z,A,ρ1,q1,?_⟩;dsimp only at f;cases e2:h2 ρ1 with
  |ok y=>rw[e2] at f;exact λH2 q2 x2 s2=>f H2 q2 (x1.trans x2) (two s1 s2)
  |exc=>rw[e2] at f;exact f.elim
  |stk=>rw[e2] at f;exact f.elim
 |false=>
  rw[hV ZM] at f ⊢;exact f H1 q1 x1 λz=>s1 (ach.mp z).1
theorem KD {Q:Bool->Hp->Prop}(h:FW X.K G (b1||b2) (MK h1 h2) σ H Q):Wo (FW X.K G b1 h1) (FW X.K G b2 h2) σ H Q:=by
 obtain⟨Z,A,ρ,q,f⟩:=h;obtain⟨⟨k,ρ1⟩,e1,f⟩:=f.bind;refine⟨Z,A,ρ,q,?_⟩;rw[e1];intro H1 q1 x1 s1;cases k with
 |false=>
  rw[hV ZM] at f ⊢;refine⟨Z,A,ρ1,q1,?_⟩;dsimp only at f;cases e2:h2 ρ1 with
  |ok y=>rw[e2] at f;exact λH2 q2 x2 s2=>f H2 q2 (x1.trans x2) (two s1 s2)
  |exc=>rw[e2] at f;exact f.elim
  |stk=>rw[e2] at f;exact f.elim
 |true=>
  rw[hZ rfl] at f ⊢;exact f H1 q1 x1 λz=>s1 (ach.mp z).1
theorem sy (ha:DT X G a b1 h1):DW X G (.BoolOp .And [a] pos) b1 h1:=⟨Kd ha.un⟩
theorem Bo (ha:DT X G a b1 h1):DW X G (.BoolOp .Or [a] pos) b1 h1:=⟨Ot ha.un⟩
theorem xp (ha:DT X G a b1 h1)(hb:DW X G (.BoolOp .And (b::rest) pos) b2 h2):DW X G (.BoolOp .And (a::b::rest) pos) (b1||b2) (zg h1 h2):=⟨(Ou ha.un hb.un).to λ_ _ _=>GG⟩
theorem CU (ha:DT X G a b1 h1)(hb:DW X G (.BoolOp .Or (b::rest) pos) b2 h2):DW X G (.BoolOp .Or (a::b::rest) pos) (b1||b2) (MK h1 h2):=⟨(Q_ ha.un hb.un).to λ_ _ _=>KD⟩
theorem xq (ha:DT X G a b1 h1):DT X G (.UnaryOp .Not a pos) b1 (Bn h1):=⟨(Ov ha.un).to λσ H Q h=>by
 obtain⟨Z,A,ρ,q,f⟩:=h;obtain⟨⟨k,ρ1⟩,e1,f⟩:=f.bind;refine⟨Z,A,ρ,q,?_⟩;rw[e1];exact λH1 q1 x1 s1=>f H1 q1 x1 s1⟩
def Vd (g1 g2:Ev->R (U×Ev)):Ev->R (U×Ev):=λρ=>(gB g1 ρ).bind λx=>if x.1=true then g2 x.2 else .ok (.bl false,x.2)
def XN (g1 g2:Ev->R (U×Ev)):Ev->R (U×Ev):=λρ=>(gB g1 ρ).bind λx=>if x.1=true then .ok (.bl true,x.2) else g2 x.2
def Ve (g1:Ev->R (U×Ev)):Ev->R (U×Ev):=λρ=>(gB g1 ρ).bind λx=>.ok (.bl (!x.1),x.2)
def Us (h:Ev->R (Bool×Ev))(g1 g2:Ev->R (U×Ev)):Ev->R (U×Ev):=λρ=>(h ρ).bind λx=>if x.1=true then g1 x.2 else g2 x.2
theorem GH (Yf:m1≠.P:=by decide)(VT:m2≠.P:=by decide)(hc:DT X G c b1 h1)(ha:DE X G a b2 m1 g1)(hb:DE X G b b3 m2 g2):DE X G (.IfExp c a b pos) (b1||(b2||b3)) .S (Us h1 g1 g2):=⟨(F5 hc.un ha.un hb.un).to λσ H Q h=>by
 obtain⟨Z,A,ρ,q,f⟩:=h;obtain⟨⟨k,ρ1⟩,e1,f⟩:=f.bind;refine⟨Z,A,ρ,q,?_⟩;rw[e1];intro H1 q1 x1 s1;cases k with
 |true=>
  rw[hZ rfl] at f ⊢;refine⟨Z,A,ρ1,q1,?_⟩;dsimp only at f;cases e2:g1 ρ1 with
  |ok y=>rw[e2] at f;exact λv2 H2 q2 x2 s2 pD=>f v2 H2 q2 (x1.trans x2) (two s1 λz=>s2 (ach.mp z).1) (pD.rp Yf)
  |exc=>rw[e2] at f;exact f.elim
  |stk=>rw[e2] at f;exact f.elim
 |false=>
  rw[hV ZM] at f ⊢;refine⟨Z,A,ρ1,q1,?_⟩;dsimp only at f;cases e2:g2 ρ1 with
  |ok y=>rw[e2] at f;exact λv2 H2 q2 x2 s2 pD=>f v2 H2 q2 (x1.trans x2) (two s1 λz=>s2 (ach.mp z).2) (pD.rp VT)
  |exc=>rw[e2] at f;exact f.elim
  |stk=>rw[e2] at f;exact f.elim⟩
def OX (p p':U->U->R U)(g1 g2 g3:Ev->R (U×Ev)):Ev->R (U×Ev):=λρ=>(g1 ρ).bind λx=>(g2 x.2).bind λy=>(p x.1 y.1).bind λz=>match z with
 | .bl k=>if k=true then (g3 y.2).bind λw=>(p' y.1 w.1).bind λz'=>.ok (z',w.2) else .ok (.bl false,y.2)
 |_=>.stk
def Ut (p:U->R U)(g:Ev->R (U×Ev)):Ev->R (U×Ev):=λρ=>(g ρ).bind λx=>(p x.1).bind λz=>.ok (z,x.2)
def OY (K:ZN)(r:V->Hp->VK->Prop)(m:Md)(p:U->R U):Prop:=∀A H x u z Q,Pk K H A u x->(∀a,A a->Mu (H a))->p u=.ok z->(∀v H',aR H H'->FV K m A H H' z v->Q v H')->r x H Q
theorem KG {r:V->Hp->VK->Prop}{p:U->R U}(hp:OY X.K r mr p){Q:VK}(h:tD X.K G b1 mr (Ut p g1) σ H Q):Wr r (tD X.K G b1 m1 g1) σ H Q:=by
 obtain⟨Z,A,ρ,q,f⟩:=h;obtain⟨⟨u,ρ1⟩,e1,f⟩:=f.bind;obtain⟨z,e2,f⟩:=f.bind;refine⟨Z,A,ρ,q,?_⟩;rw[e1];intro v1 H1 q1 x1 s1 vq;exact hp A H1 v1 u z Q vq.pk q1.mu e2 λv H' sm vm=>f v H' (q1.same sm) (x1.trans (fZ.same sm)) (vA s1 sm) (vm.e q1 sm)
theorem RQ {op:UnaryOp}{r:V->Hp->VK->Prop}{p:U->R U}(ho:Um X (unaryOp op) r)(hp:OY X.K r mr p)(ha:DE X G a b1 m1 g1):DE X G (.UnaryOp op a pos) b1 mr (Ut p g1):=⟨(Rm ho ha.un).to λ_ _ _=>KG hp⟩
def au:Ev->R (List U×Ev):=λρ=>.ok ([],ρ)
def af (g:Ev->R (U×Ev))(ga:Ev->R (List U×Ev)):Ev->R (List U×Ev):=λρ=>(g ρ).bind λx=>(ga x.2).bind λy=>.ok (x.1::y.1,y.2)
variable {ga:Ev->R (List U×Ev)}{p:Bool}
theorem ai:DA X G [] false p au:=⟨pM.to λσ H Q ⟨Z,A,ρ,q,f⟩=>f [] H q fZ.refl (λ_=>⟨rfl,aR.refl _⟩) (by unfold Kz;split;exact rfl;exact aH.nil)⟩
theorem ae (ha:DE X G e b1 m1 g1)(hr:DA X G es b2 p ga)(hm:m1=.P->(p=true/\b2=false):=by first|exact λ_=>⟨rfl,rfl⟩|exact λh=>nomatch h)
  (hs:Z8 (e::es) X.env=(false,acD e X.env)::Z8 es X.env:=by rfl):DA X G (e::es) (b1||b2) p (af g1 ga):=⟨(mm ha.un hr.un hs).to λσ H Q h=>by
 obtain⟨Z,A,ρ,q,f⟩:=h;obtain⟨⟨u,ρ1⟩,e1,f⟩:=f.bind;obtain⟨⟨us,ρ2⟩,e2,f⟩:=f.bind;refine⟨Z,A,ρ,q,?_⟩;rw[e1];intro v1 H1 q1 x1 s1 vq;refine⟨Z,A,ρ1,q1,?_⟩;dsimp only at e2;rw[e2];intro vs H2 q2 x2 s2 pD;refine f (v1::vs) H2 q2 (x1.trans x2) (two s1 s2) ?_;unfold Kz at pD ⊢;cases p with
 |true=>
  rw[hZ rfl] at pD ⊢;exact⟨v1,vs,rfl,vq.later q1 x2 s2 (λz=>(hm z).2),pD⟩
 |false=>
  rw[hV ZM] at pD ⊢;exact aH.cons (vq.laterS q1 x2 λz=>ZM (hm z).1) pD⟩
theorem Kz.pks (h:Kz K p A H us vs):Bm K H A us vs:=by
 unfold Kz at h;cases p with
 |true=>rw[hZ rfl] at h;exact h
 |false=>rw[hV ZM] at h;exact h.pks
theorem Kz.rps (h:Kz K false A H us vs):aH K H A us vs:=by
 unfold Kz at h;rw[hV ZM] at h;exact h
def aV (ga:Ev->R (List U×Ev)):Ev->R (U×Ev):=λρ=>(ga ρ).bind λx=>if x.1.length<=ZL then .ok (.tup x.1,x.2) else .stk
def fR (ga:Ev->R (List U×Ev)):Ev->R (U×Ev):=λρ=>(ga ρ).bind λx=>if x.1.length<=ZL then .ok (.lst x.1,x.2) else .stk
theorem cR {p:Z_}(h:H p=none)(o:HO):aR H (cH H p o):=λb u q=>by rw[a_ (b8 q h)];exact q
theorem pR {a:Z_}(h:aH K H A us vs)(n:H a=none)(l:us.length<=ZL):Rp K (cH H a (.tup vs)) A (.tup us) (.ref a):=by
 unfold Rp;exact⟨a,vs,rfl,bj,l,h.same (cR n _)⟩
theorem di {a:Z_}(m:∀b,A b->Mu (H b))(h:aH K H A us vs)(n:H a=none)(l:us.length<=ZL):k9 K (cH H a (.lst vs)) (λb=>A b\/b=a) (.lst us) a:=
 ⟨vs,bj,l,h.re m (fZ.same (cR n _)) λb z=>by
  rcases z with z|z
  ·exact .inl z
  ·subst z;exact .inr n⟩
theorem aX {x1}(h:DA X G es b1 false ga):DE X G (.Tuple es x1 pos) b1 .S (aV ga):=⟨(OF h.un).to λσ H Q h=>by
 obtain⟨Z,A,ρ,q,f⟩:=h;obtain⟨⟨us,ρ1⟩,e1,f⟩:=f.bind;refine⟨Z,A,ρ,q,?_⟩;rw[e1];intro vs H1 q1 x1 s1 vq;dsimp only at f;split at f
 ·rename_i l;refine⟨by rw[←vq.rps.length];exact l,λa n=>?_⟩;exact f _ _ (q1.same (cR n _)) (x1.trans (fZ.same (cR n _))) (vA s1 (cR n _)) (AW.ofS (pR vq.rps n l))
 ·exact f.elim⟩
theorem eJ (h:DA X G es b1 false ga):DE X G (.List es pos) b1 .O (fR ga):=⟨(Ge h.un).to λσ H Q h=>by
 obtain⟨Z,A,ρ,q,f⟩:=h;obtain⟨⟨us,ρ1⟩,e1,f⟩:=f.bind;refine⟨Z,A,ρ,q,?_⟩;rw[e1];intro vs H1 q1 x1 s1 vq;dsimp only at f;split at f
 ·rename_i l;refine⟨by rw[←vq.rps.length];exact l,λa n=>?_⟩;exact f _ _ (q1.same (cR n _)) (x1.trans (fZ.same (cR n _))) (vA s1 (cR n _)) (FV.e q1 (cR n _) ⟨a,rfl,n,di q1.mu vq.rps n l⟩)
 ·exact f.elim⟩
def iD (p:List U->R U)(ga:Ev->R (List U×Ev)):Ev->R (U×Ev):=λρ=>(ga ρ).bind λx=>(p x.1).bind λz=>.ok (z,x.2)
def mR (K:ZN)(r:List V->Hp->VK->Prop)(m:Md)(p:List U->R U):Prop:=∀A H vs us z Q,Bm K H A us vs->(∀a,A a->Mu (H a))->p us=.ok z->(∀v H',aR H H'->FV K m A H H' z v->Q v H')->r vs H Q
theorem sC {r:List V->Hp->VK->Prop}{f:List U->R U}(hp:mR X.K r mr f){Q:VK}(h:tD X.K G b1 mr (iD f ga) σ H Q):U8 r (Vc X.K G b1 p ga) σ H Q:=by
 obtain⟨Z,A,ρ,q,f⟩:=h;obtain⟨⟨us,ρ1⟩,e1,f⟩:=f.bind;obtain⟨z,e2,f⟩:=f.bind;refine⟨Z,A,ρ,q,?_⟩;rw[e1];intro vs H1 q1 x1 s1 vq;exact hp A H1 vs us z Q vq.pks q1.mu e2 λv H' sm vm=>f v H' (q1.same sm) (x1.trans (fZ.same sm)) (vA s1 sm) (vm.e q1 sm)
theorem bD {id:String}{p1:Pos}{r:List V->Hp->VK->Prop}{f:List U->R U}(hc:fB X (.builtin id) r)(hp:mR X.K r mr f)(hg:Gl X x)(hm:X.mg x=none)(hv:aaO x=some (.builtin id))(ha:DA X G (e::es) b1 true ga)(hn:x≠"__name__":=by decide)(Ct:(x==("__debug__":Str))=false:=by decide)
  (he:Z8 (e::es) X.env=(false,acD e X.env)::Z8 es X.env:=by rfl) (sS:(abW pos (Z8 es X.env)).any (·.1)=false:=by rfl):DE X G (.Call (.Name x p1) (e::es) [] pos) b1 mr (iD f ga):=⟨(sZ hc hg hm hv ha.un hn Ct he sS).to λ_ _ _=>sC hp⟩
theorem bX {T:String}{p1:Pos}{r:List V->Hp->VK->Prop}{f:List U->R U}(hc:fB X (.type T) r)(hp:mR X.K r mr f)(hg:Gl X x)(hm:X.mg x=none)(hv:aaO x=some (.type T))(ha:DA X G (e::es) b1 true ga)(hn:x≠"__name__":=by decide)(Ct:(x==("__debug__":Str))=false:=by decide)
  (he:Z8 (e::es) X.env=(false,acD e X.env)::Z8 es X.env:=by rfl) (sS:(abW pos (Z8 es X.env)).any (·.1)=false:=by rfl):DE X G (.Call (.Name x p1) (e::es) [] pos) b1 mr (iD f ga):=⟨(gJ hc hg hm hv ha.un hn Ct he sS).to λ_ _ _=>sC hp⟩
end
end L2
namespace L2
section
variable {A':Z_->Prop}{ρ':Ev}{b p:Bool}{m:Md}{α:Type}
theorem k9.mono (n:∀b,A' b->A b)(h:k9 K H A u a):k9 K H A' u a:=by
 cases u<;>(unfold k9 at h ⊢)
 case lst us=>obtain⟨xs,q,l,z⟩:=h;exact⟨xs,q,l,z.mono n⟩
 case dct ks us=>obtain⟨xs,q,l,z⟩:=h;exact⟨xs,q,l,z.mono n⟩
 all_goals exact h.elim
theorem dA {α:Type}{l:List (Option α)}{x:Option α}{y:α}(h:(l.set i x)[j]? = some (some y)):(i=j/\x=some y)\/(i≠j/\l[j]? = some (some y)):=by
 by_cases e:i=j
 ·subst e;rw[List.getElem?_set_self'] at h;refine .inl ⟨rfl,?_⟩;cases q:l[i]? with
  |none=>rw[q] at h;cases h
  |some w=>rw[q] at h;exact aab h
 ·rw[aal e] at h;exact .inr ⟨e,h⟩
theorem sE {α:Type}{l l':List (Option α)}{x:α}{β:Type}{k:List (Option β)}{y:Option β}{z:β}(hl:k.length=l.length)(h:(k.set i y)[i]? = some (some z)):(l.set i (some x))[i]? = some (some x):=by
 have:i<l.length:=by
  have:=(ZQ.mp h).1;rw[aaJ] at this;lia
 rw[aa2 this]
theorem cT.set (r:cT K G Z A ρ σ H)(c:G.is i=false)(h:Rp K H A u v):cT K G Z A (ρ.set i (some u)) (σ.set i (some v)) H where
 slot:=λj w hj=>by
  rcases dA hj with⟨rfl,e⟩|⟨ne,e⟩
  ·cases e;refine⟨v,sE (l':=σ) r.len hj,?_⟩;rw[hV (by rw[c];exact ZM)];exact h
  ·rw[aal ne];exact r.slot j w e
 dis:=λj k w w' a cj ck ne hj hk sj sk=>by
  rcases dA hj with⟨rfl,_⟩|⟨n1,e1⟩
  ·rw[c] at cj;cases cj
  ·rcases dA hk with⟨rfl,_⟩|⟨n2,e2⟩
   ·rw[c] at ck;cases ck
   ·rw[aal n1] at sj;rw[aal n2] at sk;exact r.dis j k w w' a cj ck ne e1 e2 sj sk
 mu:=r.mu
 sup:=r.sup
 out:=r.out
 bas:=r.bas
 io0:=λh0=>by
  obtain⟨a,b⟩:=r.io0 h0;refine⟨?_,b⟩;have:i≠0:=λz=>by subst z;rw[b] at c;cases c
  rw[aal this];exact a
 len:=by rw[aaJ,aaJ];exact r.len
theorem cT.drop (r:cT K G Z A ρ σ H)(i:Nat):cT K G Z A (ρ.set i none) σ H where
 slot:=λj w hj=>by
  rcases dA hj with⟨rfl,e⟩|⟨ne,e⟩
  ·cases e
  ·exact r.slot j w e
 dis:=λj k w w' a cj ck ne hj hk sj sk=>by
  rcases dA hj with⟨rfl,e⟩|⟨n1,e1⟩
  ·cases e
  ·rcases dA hk with⟨rfl,e⟩|⟨n2,e2⟩
   ·cases e
   ·exact r.dis j k w w' a cj ck ne e1 e2 sj sk
 mu:=r.mu
 sup:=r.sup
 out:=r.out
 bas:=r.bas
 io0:=r.io0
 len:=by rw[aaJ];exact r.len
theorem cT.setO (r:cT K G Z A ρ σ H)(c:G.is i=true)(hi:G.io=true->i≠0)(na:¬A a)(nb:Z.B a=none)(r':cT K G Z (λb=>A b\/b=a) ρ σ H)(h:k9 K H (λb=>A b\/b=a) u a) :
  cT K G Z (λb=>A b\/b=a) (ρ.set i (some u)) (σ.set i (some (.ref a))) H where
 slot:=λj w hj=>by
  rcases dA hj with⟨rfl,e⟩|⟨ne,e⟩
  ·cases e;refine⟨.ref a,sE (l':=σ) r.len hj,?_⟩;rw[hZ c];exact⟨a,rfl,.inr rfl,nb,.inl λz=>na (r.sup a z),h⟩
  ·rw[aal ne];exact r'.slot j w e
 dis:=λj k w w' b cj ck ne hj hk sj sk=>by
  have key:∀k w',G.is k=true->i≠k->ρ[k]? = some (some w')->σ[k]? ≠ some (some (.ref a)):=λk w' ck _ e q=>by
   obtain⟨b,h1,h2,_⟩:=r.own ck e;rw[h1] at q;cases q;exact na h2
  rcases dA hj with⟨rfl,e1⟩|⟨n1,e1⟩
  ·rcases dA hk with⟨rfl,_⟩|⟨n2,e2⟩
   ·exact ne rfl
   ·rw[sE (l':=σ) r.len hj] at sj;cases sj;rw[aal n2] at sk;exact key k w' ck n2 e2 sk
  ·rcases dA hk with⟨rfl,e2⟩|⟨n2,e2⟩
   ·rw[sE (l':=σ) r.len hk] at sk;cases sk;rw[aal n1] at sj;exact key j w cj n1 e1 sj
   ·rw[aal n1] at sj;rw[aal n2] at sk;exact r.dis j k w w' b cj ck ne e1 e2 sj sk
 mu:=r'.mu
 sup:=r'.sup
 out:=r'.out
 bas:=r'.bas
 io0:=λh0=>by
  obtain⟨a,b⟩:=r.io0 h0;exact⟨by rw[aal (hi h0)];exact a,b⟩
 len:=by rw[aaJ,aaJ];exact r.len
theorem cT.put (r:cT K G Z A ρ σ H){w:U}(c:G.is i=true)(h:ρ[i]? = some (some u))(ha:σ[i]? = some (some (.ref a)))(e:∀b o,b≠a->H b=some o->H' b=some o)(t:k9 K H' A w a) :
  cT K G Z A (ρ.set i (some w)) σ H':=by
 obtain⟨a',h1,h2,h3,h4,h5⟩:=r.own c h;rw[ha] at h1;cases h1;have x:fZ A H H':=λb o nb z=>e b o (λq=>nb (q▸h2)) z;exact {
  slot:=λj y hj=>by
   rcases dA hj with⟨rfl,q⟩|⟨ne,q⟩
   ·cases q;refine⟨.ref a,ha,?_⟩;rw[hZ c];exact⟨a,rfl,h2,h3,h4,t⟩
   ·obtain⟨v,s1,s2⟩:=r.slot j y q;refine⟨v,s1,?_⟩;by_cases cj:G.is j=true
    ·rw[hZ cj] at s2 ⊢;obtain⟨b,e1,e2,e3,e4,e5⟩:=s2;refine⟨b,e1,e2,e3,e4,e5.re r.mu x (λb z=>.inl z) λo z=>e b o (λq'=>?_) z⟩;subst q' e1;exact r.dis i j u y b c cj ne h q ha s1
    ·rw[hV cj] at s2 ⊢;exact s2.re r.mu x λb z=>.inl z
  dis:=λj k y y' b cj ck ne hj hk sj sk=>by
   have f:∀j y,(ρ.set i (some w))[j]? = some (some y)->∃y',ρ[j]? = some (some y'):=λj y hj=>by
    rcases dA hj with⟨rfl,q⟩|⟨ne,q⟩
    ·exact⟨u,h⟩
    ·exact⟨y,q⟩
   obtain⟨y1,hj⟩:=f j y hj;obtain⟨y2,hk⟩:=f k y' hk;exact r.dis j k y1 y2 b cj ck ne hj hk sj sk
  mu:=λb z=>by
   by_cases q:b=a
   ·subst q;exact t.mu
   ·have m:=r.mu b z;obtain⟨o,z⟩:=m.ex;rw[e b o q z,←z];exact m
  sup:=r.sup
  out:=r.out
  bas:=λb o z=>e b o (λq=>by subst q;rw[h3] at z;cases z) (r.bas b o z)
  io0:=r.io0
  len:=by rw[aaJ];exact r.len}
end
def RS (K:ZN)(m:Md)(A:Z_->Prop)(H:Hp):R U->VK->Prop
 | .ok u,Q=>∀v H',aR H H'->FV K m A H H' u v->Q v H'
 |_,_=>False
def Bp {α:Type}(n:Nat)(g:List U->R α)(us:List U):R α:=if us.length=n then g us else .stk
def eK (K:ZN)(n:Nat)(f:List U->R U)(m:Md):Sp:=λvs H Q _=>∃us A,aH K H A us vs/\(∀a,A a->Mu (H a))/\RS K m A H (Bp n f us) Q
def FX (K:ZN)(n:Nat)(f:List U->R (U×U)):Sp:=λvs H Q _=>∃u0 us a0 vs' A,vs=.ref a0::vs'/\A a0/\k9 K H A u0 a0/\aH K H A us vs'/\(∀a,A a->Mu (H a))/\match Bp n f (u0::us) with
 | .ok (u,w)=>∀v H',(∀b o,b≠a0->H b=some o->H' b=some o)->k9 K H' A w a0->Rp K H' A u v->Q v H'
 |_=>False
section
variable {e a b:abH}{es rest:List abH}{pos p1:Pos}{b1 b2 b3:Bool}{m1 m2 m3 mr:Md}{g1 g2 g3:Ev->R (U×Ev)}{h1 h2:Ev->R (Bool×Ev)}{ga:Ev->R (List U×Ev)}
def fy (n:Nat)(f:List U->R U)(ga:Ev->R (List U×Ev)):Ev->R (U×Ev):=λρ=>(ga ρ).bind λx=>(Bp n f x.1).bind λz=>.ok (z,x.2)
theorem aG {f:List U->R U}(F:Fn X.prog X.w X.K X.mg X.base x k ps (eK X.K n f mr))(hr:f9 k X.A)(ha:DA X G (e::es) b1 false ga)(hg:Gl X x:=by rfl)(Ct:(x==("__debug__":Str))=false:=by decide)(he:Z8 (e::es) X.env=(false,acD e X.env)::Z8 es X.env:=by rfl)(sS:(abW pos (Z8 es X.env)).any (·.1)=false:=by rfl):DE X G (.Call (.Name x p1) (e::es) [] pos) b1 mr (fy n f ga):=⟨(zd F hr ha.un hg Ct he sS).to λσ H Q h=>by
 obtain⟨Z,A,ρ,q,f⟩:=h;obtain⟨⟨us,ρ1⟩,e1,f⟩:=f.bind;obtain⟨z,e2,f⟩:=f.bind;refine⟨Z,A,ρ,q,?_⟩;rw[e1];intro vs H1 q1 x1 s1 vq;show eK _ _ _ _ _ _ _ _;rw[aaW];refine⟨us,A,vq.rps,q1.mu,?_⟩;dsimp only at e2;rw[e2];exact λv H' sm vm=>f v H' (q1.same sm) (x1.trans (fZ.same sm)) (vA s1 sm) (vm.e q1 sm)⟩
def live (ρ:Ev)(i:Nat):Bool:=match ρ[i]? with
 |some (some _)=>true
 |_=>false
theorem sF (h:live ρ i=true):∃u,ρ[i]? = some (some u):=by
 unfold live at h;split at h
 ·rename_i u hu;exact⟨u,hu⟩
 ·cases h
def FY (n i:Nat)(f:List U->R (U×U))(ga:Ev->R (List U×Ev)):Ev->R (U×Ev):=λρ=>if live ρ i=true then (ga ρ).bind λx=>match x.2[i]? with
 |some (some u0)=>(Bp n f (u0::x.1)).bind λz=>.ok (z.1,x.2.set i (some z.2))
 |_=>.stk
 else .stk
theorem ij {y:Str}{p2:Pos}{f:List U->R (U×U)}(F:Fn X.prog X.w X.K X.mg X.base x k ps (FX X.K n f))(hr:f9 k X.A)(ha:DA X G es b1 false ga)(hN:X.N[i]? = some y:=by rfl)(hv:A8 X.env.scope y:=by first|exact Or.inl rfl|exact Or.inr (Or.inl rfl)|exact Or.inr (Or.inr rfl))(c:G.is i=true:=by rfl)(hd:(y==("__debug__":Str))=false:=by decide)(ly:(y==("__classdict__":Str))=false:=by decide)(hs:Z8 (.Name y p2::es) X.env=(false,acD (.Name y p2) X.env)::Z8 es X.env:=by rfl)(hg:Gl X x:=by rfl)(Ct:(x==("__debug__":Str))=false:=by decide)(sS:(abW pos (Z8 es X.env)).any (·.1)=false:=by rfl):DE X G (.Call (.Name x p1) (.Name y p2::es) [] pos) true .S (FY n i f ga):=⟨(zd F hr (mm (f6 hN hv hd ly) ha.un hs) hg Ct hs sS).to λσ H Q h=>by
 obtain⟨Z,A,ρ,q,f⟩:=h;unfold FY at f;split at f
 ·rename_i hl;obtain⟨u00,hu0⟩:=sF hl;obtain⟨a0,h0,_⟩:=q.own c hu0;obtain⟨⟨us,ρ1⟩,e1,f⟩:=f.bind;dsimp only at f;split at f
  ·rename_i u0 hu;obtain⟨⟨z,w⟩,e2,f⟩:=f.bind;refine⟨.ref a0,h0,Z,A,ρ,q,?_⟩;rw[e1];intro vs H1 q1 x1 s1 vq;obtain⟨a0',k1,k2,_,_,k3⟩:=q1.own c hu;rw[h0] at k1;cases k1;show FX _ _ _ _ _ _ _;rw[aaW];refine⟨u0,us,a0,vs,A,rfl,k2,k3,vq.rps,q1.mu,?_⟩;rw[e2];intro v H' em tp rp;exact f v H' (q1.put c hu h0 em tp) (x1.trans λb o nb z=>em b o (λy=>nb (y▸k2)) z) (λz=>nomatch z) rp
  ·exact f.elim
 ·exact f.elim⟩
def GI (K:ZN)(T:String)(r:V->List V->Hp->VK->Prop)(p:U->List U->R (U×U)):Prop:=∀A H a u vs us z w Q,k9 K H A u a->A a->aH K H A us vs->(∀a,A a->Mu (H a))->p u us=.ok (z,w)->
 (∀v H',(∀b o,b≠a->H b=some o->H' b=some o)->k9 K H' A w a->Rp K H' A z v->Q v H')->r (.ref a) vs H Q
def EX:U->String->Bool
 | .lst _,T=>T=="list"
 |_,_=>false
theorem OZ {a:Z_}{T:String}(h:k9 K H A u a)(t:EX u T=true):U9 K T (.ref a) H:=by
 cases u<;>(unfold EX at t;unfold k9 at h)
 case lst us=>
  obtain⟨xs,q,_⟩:=h;exact .inl ⟨by simpa using t,xs,.inl (.inl q)⟩
 all_goals cases t
def gM (T:String)(i:Nat)(p:U->List U->R (U×U))(ga:Ev->R (List U×Ev)):Ev->R (U×Ev):=λρ=>match ρ[i]? with
 |some (some u1)=>if EX u1 T=true then (ga ρ).bind λx=>match x.2[i]? with
  |some (some u0)=>(p u0 x.1).bind λz=>.ok (z.1,x.2.set i (some z.2))
  |_=>.stk
  else .stk
 |_=>.stk
theorem GJ {T:String}{r:V->List V->Hp->VK->Prop}{p:U->List U->R (U×U)}(hp:GI X.K T r p)(c:G.is i=true){Q:VK}(h:tD X.K G true .S (gM T i p ga) σ H Q) :
  Ww X.K T r (Kb i) (Vc X.K G b1 false ga) σ H Q:=by
 obtain⟨Z,A,ρ,q,f⟩:=h;unfold gM at f;split at f
 ·rename_i u1 jz;split at f
  ·rename_i ht;obtain⟨a0,h0,_,_,_,t0⟩:=q.own c jz;obtain⟨⟨us,ρ1⟩,e1,f⟩:=f.bind;dsimp only at f;split at f
   ·rename_i u0 hu;obtain⟨⟨z,w⟩,e2,f⟩:=f.bind;refine⟨.ref a0,h0,OZ t0 ht,Z,A,ρ,q,?_⟩;rw[e1];intro vs H1 q1 x1 s1 vq;obtain⟨a0',k1,k2,_,_,k3⟩:=q1.own c hu;rw[h0] at k1;cases k1;exact hp A H1 a0 u0 vs us z w Q k3 k2 vq.rps q1.mu e2 λv H' em tp rp=>f v H' (q1.put c hu h0 em tp) (x1.trans λb o nb z=>em b o (λy=>nb (y▸k2)) z) (λz=>nomatch z) rp
   ·exact f.elim
  ·exact f.elim
 ·exact f.elim
theorem nD {T id:String}{y name:Str}{p2 eQ:Pos}{r:V->List V->Hp->VK->Prop}{p:U->List U->R (U×U)}(pa:PlainAttrs T)(slot:Slot T name id)(VO:typeOf (.builtin id)=pure (.type "method_descriptor"))(hm:Kn X id r)(hp:GI X.K T r p)(ha:DA X G (e::es) b1 false ga)(hN:X.N[i]? = some y:=by rfl)(hv:A8 X.env.scope y:=by first|exact Or.inl rfl|exact Or.inr (Or.inl rfl)|exact Or.inr (Or.inr rfl))(c:G.is i=true:=by rfl)(hd:(y==("__debug__":Str))=false:=by decide)(ly:(y==("__classdict__":Str))=false:=by decide)(vc:acV (.Name y p2) name X.env (acD (.Name y p2) X.env)=acD (.Name y p2) X.env:=by rfl)(Cu:((abW pos (Z8 (e::es) X.env)).all (λx=> !x.1)&&(backToKw pos (adR [] X.env)).all (λx=>x.1.isSome)
   && decide ((e::es).length+([]:List adu).length+(if ([]:List adu).isEmpty then 0 else 1)<30))=true:=by rfl)(vd:(eQ.endLine==pos.line)=true:=by rfl)(hs:Z8 (e::es) X.env=(false,acD e X.env)::Z8 es X.env:=by rfl)(nY:(abW pos (Z8 es X.env)).any (·.1)=false:=by rfl) :
  DE X G (.Call (.Attribute (.Name y p2) name eQ) (e::es) [] pos) true .S (gM T i p ga):=⟨(Gf pa slot VO hm (f6 hN hv hd ly) ha.un vc Cu vd hs nY).to λ_ _ _=>GJ hp c⟩
def RT:Ev->R (Option Int×Ev):=λρ=>.ok (none,ρ)
def RU (g:Ev->R (U×Ev)):Ev->R (Option Int×Ev):=λρ=>(g ρ).bind λx=>match x.1 with
 | .int i=>.ok (some i,x.2)
 |_=>.stk
def XO (p:U->Option Int->Option Int->R U)(g:Ev->R (U×Ev))(lo hi:Ev->R (Option Int×Ev)):Ev->R (U×Ev):=λρ=>(g ρ).bind λx=>(lo x.2).bind λl=>(hi l.2).bind λh=>(p x.1 l.1 h.1).bind λz=>.ok (z,h.2)
end
end L2
namespace L2
def Vf (K:ZN)(G:Gm)(sg:U->Ev->R Ev):TG:=λv σ H Q=>∃Z A ρ u,cT K G Z A ρ σ H/\Rp K H A u v/\match sg u ρ with
 | .ok ρ'=>∀σ',cT K G Z A ρ' σ' H->(∀i,G.is i=true->σ'[i]? = σ[i]?)->Q σ' H
 |_=>False
structure DG (X:Cx)(G:Gm)(tg:abH)(sg:U->Ev->R Ev):Prop where
 un:PG X tg (Vf X.K G sg)
def Vg (K:ZN)(G:Gm)(sg:List U->Ev->R Ev):Ke:=λvs σ H Q=>∃Z A ρ us,cT K G Z A ρ σ H/\aH K H A us vs/\match sg us ρ with
 | .ok ρ'=>∀σ',cT K G Z A ρ' σ' H->(∀i,G.is i=true->σ'[i]? = σ[i]?)->Q σ' H
 |_=>False
structure Uu (X:Cx)(G:Gm)(tgs:List abH)(sg:List U->Ev->R Ev):Prop where
 un:Mz X tgs (Vg X.K G sg)
def ba (i:Nat):U->Ev->R Ev:=λu ρ=>.ok (ρ.set i (some u))
def bx:List U->Ev->R Ev:=λus ρ=>match us with
 | []=>.ok ρ
 |_=>.stk
def ay (s:U->Ev->R Ev)(t:List U->Ev->R Ev):List U->Ev->R Ev:=λus ρ=>match us with
 |u::r=>(s u ρ).bind λρ1=>t r ρ1
 |_=>.stk
def bz (n:Nat)(t:List U->Ev->R Ev):U->Ev->R Ev:=λu ρ=>match u with
 | .tup us=>if us.length=n then t us ρ else .stk
 |_=>.stk
section
variable {pos:Pos}
theorem Mz.to {es:List abH}{t t':Ke}(h:Mz X es t)(i:∀v σ H Q,t' v σ H Q->t v σ H Q):Mz X es t':=λpins s σ H v u Q I r q=>h pins s σ H v u Q I r (i _ _ _ _ q)
theorem aB (hN:X.N.Nodup)(hi:X.N[i]? = some x:=by rfl)(hx:Ka X.env.scope x:=by first|exact Or.inl rfl|exact Or.inr rfl)(c:G.is i=false:=by rfl)(hf:X.fn x=true\/X.env.scope.names.lookup x=some .local:=by first|exact .inl rfl|exact .inr rfl|assumption):DG X G (.Name x pos) (ba i):=⟨(Kg hN hi hx hf).to λv σ H Q ⟨Z,A,ρ,u,q,r,f⟩=>f _ (q.set c r) λj cj=>by
  have:i≠j:=λz=>by subst z;rw[c] at cj;cases cj
  rw[aal this]⟩
theorem dB:Uu X G [] bx:=⟨CJ.to λvs σ H Q h00=>by
 obtain⟨Z,A,ρ,us,q,r,f⟩:=h00;unfold bx at f;cases us with
 |nil=>unfold aH at r;exact⟨r,f σ q λ_ _=>rfl⟩
 |cons=>exact f.elim⟩
theorem aS {e:abH}{es:List abH}{s:U->Ev->R Ev}{t:List U->Ev->R Ev}(h1:DG X G e s)(h2:Uu X G es t)
  (hs:(abf (e::es) X.env).map (·.2)=ad3 e X.env::(abf es X.env).map (·.2):=by rfl):Uu X G (e::es) (ay s t):=⟨(sU h1.un h2.un hs).to λvs σ H Q h00=>by
 obtain⟨Z,A,ρ,us,q,r,f⟩:=h00;unfold ay at f;cases us with
 |nil=>exact f.elim
 |cons u us=>
  unfold aH at r;obtain⟨v,vr,rfl,r1,r2⟩:=r;dsimp only at f;refine⟨v,vr,rfl,Z,A,ρ,u,q,r1,?_⟩;cases e1:s u ρ with
  |ok ρ1=>
   rw[e1] at f;simp only[R.bind] at f;intro σ1 q1 o1;refine⟨Z,A,ρ1,us,q1,r2,?_⟩;cases e2:t us ρ1 with
   |ok ρ2=>rw[e2] at f;exact λσ2 q2 o2=>f σ2 q2 λi c=>(o2 i c).trans (o1 i c)
   |exc=>rw[e2] at f;exact f.elim
   |stk=>rw[e2] at f;exact f.elim
  |exc=>rw[e1] at f;exact f.elim
  |stk=>rw[e1] at f;exact f.elim⟩
theorem fz {es:List abH}{t:List U->Ev->R Ev}(hc:X.calm=true)(h:Uu X G es t)(hn:(abf es X.env).length=n:=by rfl)(TH:(abf es X.env).findIdx? (·.1)=none:=by rfl):DG X G (.Tuple es k pos) (bz n t):=⟨(F6 hc h.un hn TH).to λv σ H Q h00=>by
 obtain⟨Z,A,ρ,u,q,r,f⟩:=h00;unfold bz at f;cases u with
 |tup us=>
  unfold Rp at r;obtain⟨a,xs,rfl,sq,l,rs⟩:=r;dsimp only at f;by_cases hl:us.length=n
  ·rw[hZ hl] at f;exact⟨a,xs,rfl,iC.of sq,by rw[←rs.length];exact hl,Z,A,ρ,us,q,rs,f⟩
  ·rw[hV hl] at f;exact f.elim
 |_=>exact f.elim⟩
end
def XQ (K:ZN)(Z:Pkg)(m:Md)(H:Hp)(u:U)(v:V):Prop:=match m with
 | .S=>Rp K H Z.A0 u v
 | .O=>∃a,v=.ref a/\Z.B a=none/\¬Z.A0 a/\k9 K H (λb=>Z.A0 b\/b=a) u a
 | .P=>False
def tL (K:ZN)(G:Gm)(Z:Pkg)(m:Md):SR->nA->Prop
 | .nx ρ',D=>∀A' σ' H',cT K G Z A' ρ' σ' H'->D.nx σ' H'
 | .bk ρ',D=>∀A' σ' H',cT K G Z A' ρ' σ' H'->D.bk σ' H'
 | .ct ρ',D=>∀A' σ' H',cT K G Z A' ρ' σ' H'->D.ct σ' H'
 | .rt u ρ',D=>∀A' σ' H' v,cT K G Z A' ρ' σ' H'->XQ K Z m H' u v->D.rt v H'
 | .exc _ _,_=>∀H',(∀a o,Z.B a=some o->H' a=some o)->G.W H'
 | .stk,_=>False
def QW (K:ZN)(G:Gm)(m:Md)(g:Ev->SR):TS:=λD σ H=>∃Z A ρ,cT K G Z A ρ σ H/\tL K G Z m (g ρ) D
structure DS (X:Cx)(G:Gm)(m:Md)(st:adh)(g:Ev->SR):Prop where
 un:PS X st (QW X.K G m g)
structure Bq (X:Cx)(G:Gm)(m:Md)(st:List adh)(g:Ev->SR):Prop where
 un:vt X st (QW X.K G m g)
def bS:Ev->SR:=.nx
def aK (g1 g2:Ev->SR):Ev->SR:=λρ=>match g1 ρ with
 | .nx ρ'=>g2 ρ'
 |r=>r
def SR.of {α:Type}:R α->(α->SR)->SR
 | .ok a,f=>f a
 |_,_=>.stk
section
variable {m:Md}{α:Type}
theorem tL.of {x:R α}{k:α->SR}{D:nA}(f:tL K G Z m (SR.of x k) D):∃a,x=.ok a/\tL K G Z m (k a) D:=by
 cases x with
 |ok a=>exact⟨a,rfl,f⟩
 |exc=>exact f.elim
 |stk=>exact f.elim
end
section
variable {e a b:abH}{TY rest:List adh}{es:List abH}{pos p1:Pos}{b1 b2 b3:Bool}{m m1 m2 m3 mr:Md}{g1 g2 g3:Ev->R (U×Ev)}{h1 h2:Ev->R (Bool×Ev)}{ga:Ev->R (List U×Ev)}{s1 s2:Ev->SR}
theorem bM:Bq X G m [] bS:=⟨CG.to λD σ H ⟨Z,A,ρ,q,f⟩=>f A σ H q⟩
theorem aw (h:DS X G m st s1):Bq X G m [st] s1:=⟨CH h.un⟩
theorem ak (ha:DS X G m st s1)(hb:Bq X G m rest s2):Bq X G m (st::rest) (aK s1 s2):=⟨(yT ha.un hb.un).to λD σ H h00=>by
 obtain⟨Z,A,ρ,q,f⟩:=h00;refine⟨Z,A,ρ,q,?_⟩;unfold aK at f;cases e:s1 ρ with
 |nx ρ1=>rw[e] at f;exact λA1 σ1 H1 q1=>⟨Z,A1,ρ1,q1,f⟩
 |rt=>rw[e] at f;exact f
 |bk=>rw[e] at f;exact f
 |ct=>rw[e] at f;exact f
 |exc=>rw[e] at f;exact f
 |stk=>rw[e] at f;exact f⟩
def O0:Ev->SR:=.bk
def RV:Ev->SR:=.ct
def oz (g:Ev->R (U×Ev)):Ev->SR:=λρ=>SR.of (g ρ) λx=>.nx x.2
theorem mn (h:DE X G e b1 m1 g1)(hs:ac3 e none pos.line X.env=pure false:=by rfl):DS X G m (.Expr e pos) (oz g1):=⟨(CI h.un hs).to λD σ H h00=>by
 obtain⟨Z,A,ρ,q,f⟩:=h00;obtain⟨⟨u,ρ1⟩,e1,f⟩:=f.of;refine⟨Z,A,ρ,q,?_⟩;rw[e1];exact λv H1 q1 _ _ _=>f A σ H1 q1⟩
def bc (g:Ev->R (U×Ev)):Ev->SR:=λρ=>SR.of (g ρ) λx=>.rt x.1 x.2
theorem aT (h:DE X G e b1 m1 g1)(hn:m1≠.P:=by decide):DS X G .S (.Return (some e) pos) (bc g1):=⟨(A9 h.un).to λD σ H h00=>by
 obtain⟨Z,A,ρ,q,f⟩:=h00;obtain⟨⟨u,ρ1⟩,e1,f⟩:=f.of;refine⟨Z,A,ρ,q,?_⟩;rw[e1];exact λv H1 q1 _ _ vm=>f A σ H1 v q1 ((vm.rp hn).mono q1.sup)⟩
theorem mq (h:DE X G e b1 .O g1):DS X G .O (.Return (some e) pos) (bc g1):=⟨(A9 h.un).to λD σ H h00=>by
 obtain⟨Z,A,ρ,q,f⟩:=h00;obtain⟨⟨u,ρ1⟩,e1,f⟩:=f.of;refine⟨Z,A,ρ,q,?_⟩;rw[e1];intro v H1 q1 _ _ vm;obtain⟨a,rfl,na,nb,_,t⟩:=vm;exact f A σ H1 _ q1 ⟨a,rfl,nb,λz=>na (q1.sup a z),t.mono λb z=>z.imp (q1.sup b) id⟩⟩
theorem xr (hm:m≠.P:=by decide)(hi:G.io=true->i≠0)(hN:X.N[i]? = some x:=by rfl)(hv:A8 X.env.scope x:=by first|exact Or.inl rfl|exact Or.inr (Or.inl rfl)|exact Or.inr (Or.inr rfl))(hd:(x==("__debug__":Str))=false:=by decide)(ly:(x==("__classdict__":Str))=false:=by decide)(c:G.is i=true:=by rfl):DS X G m (.Return (some (.Name x p1)) pos) (bc (ag i)):=⟨(A9 (f6 hN hv hd ly)).to λD σ H h00=>by
 obtain⟨Z,A,ρ,q,f⟩:=h00;obtain⟨⟨u,ρ1⟩,e1,f⟩:=f.of;unfold ag at e1;split at e1
 ·rename_i u' hu;cases e1;obtain⟨a,h1,h2,h3,h4,h5⟩:=q.own c hu;have na:¬Z.A0 a:=by
   rcases h4 with h4|⟨h4,h6⟩
   ·exact h4
   ·exact absurd h6 (hi h4)
  refine⟨.ref a,h1,f A σ H _ q ?_⟩;cases m with
  |S=>exact h5.rp q.sup na
  |O=>exact⟨a,rfl,h3,na,h5.mono λb z=>by
    rcases z with z|z
    ·exact q.sup b z
    ·subst z;exact h2⟩
  |P=>exact absurd rfl hm
 ·cases e1⟩
def bp (i:Nat)(g:Ev->R (U×Ev)):Ev->SR:=λρ=>SR.of (g ρ) λx=>.nx (x.2.set i (some x.1))
theorem zh (c:G.is i=false)(hn:m1≠.P)(hi:∀σ H Q,tD X.K G b1 m1 g1 σ H Q->te σ H Q){D:nA}(h:QW X.K G m (bp i g1) D σ H):F7 te (yU i) D σ H:=by
 obtain⟨Z,A,ρ,q,f⟩:=h;obtain⟨⟨u,ρ1⟩,e1,f⟩:=f.of;refine hi _ _ _ ⟨Z,A,ρ,q,?_⟩;rw[e1];exact λv H1 q1 _ _ vm=>f A _ H1 (q1.set c (vm.rp hn))
theorem EY (c:G.is i=true)(h0:G.io=true->i≠0)(hi:∀σ H Q,tD X.K G b1 .O g1 σ H Q->te σ H Q){D:nA}(h:QW X.K G m (bp i g1) D σ H):F7 te (yU i) D σ H:=by
 obtain⟨Z,A,ρ,q,f⟩:=h;obtain⟨⟨u,ρ1⟩,e1,f⟩:=f.of;refine hi _ _ _ ⟨Z,A,ρ,q,?_⟩;rw[e1];intro v H1 q1 _ _ vm;obtain⟨a,rfl,na,nb,r,t⟩:=vm;exact f _ _ H1 (q1.setO c h0 na nb r t)
theorem bh (hN:X.N.Nodup)(h:DE X G e b1 m1 g1)(hi:X.N[i]? = some x:=by rfl)(hx:Ka X.env.scope x:=by first|exact Or.inl rfl|exact Or.inr rfl)(c:G.is i=false:=by rfl)(hn:m1≠.P:=by decide)(hs:ac3 e (some (.Name x p1)) pos.line X.env=pure false:=by rfl)(hf:X.fn x=true\/X.env.scope.names.lookup x=some .local:=by first|exact .inl rfl|exact .inr rfl|assumption):DS X G m (.Assign [.Name x p1] e pos) (bp i g1):=⟨(F8 hN hi hx h.un hs hf).to λ_ _ _=>zh c hn λ_ _ _ h=>h⟩
theorem eC (hN:X.N.Nodup)(h:DE X G e b1 .O g1)(h0:G.io=true->i≠0:=by decide)(hi:X.N[i]? = some x:=by rfl)(hx:Ka X.env.scope x:=by first|exact Or.inl rfl|exact Or.inr rfl)(c:G.is i=true:=by rfl)(hs:ac3 e (some (.Name x p1)) pos.line X.env=pure false:=by rfl)(hf:X.fn x=true\/X.env.scope.names.lookup x=some .local:=by first|exact .inl rfl|exact .inr rfl|assumption):DS X G m (.Assign [.Name x p1] e pos) (bp i g1):=⟨(F8 hN hi hx h.un hs hf).to λ_ _ _=>EY c h0 λ_ _ _ h=>h⟩
def RW (i j:Nat):Ev->SR:=λρ=>match ρ[j]? with
 |some (some u)=>.nx ((ρ.set j none).set i (some u))
 |_=>.stk
def Vh (sg:U->Ev->R Ev)(g:Ev->R (U×Ev)):Ev->SR:=λρ=>SR.of (g ρ) λx=>SR.of (sg x.1 x.2) .nx
def Vi (i j:Nat)(ga:Ev->R (List U×Ev)):Ev->SR:=λρ=>SR.of (ga ρ) λx=>match x.1 with
 | [u,w]=>.nx ((x.2.set i (some u)).set j (some w))
 |_=>.stk
def mS (h:Ev->R (Bool×Ev))(s1 s2:Ev->SR):Ev->SR:=λρ=>SR.of (h ρ) λx=>if x.1=true then s1 x.2 else s2 x.2
theorem eD {a b:List adh}(hc:DT X G c b1 h1)(ha:Bq X G m a s1)(hb:Bq X G m b s2):DS X G m (.If c a b pos) (mS h1 s1 s2):=⟨(My hc.un ha.un hb.un).to λD σ H h00=>by
 obtain⟨Z,A,ρ,q,f⟩:=h00;obtain⟨⟨k,ρ1⟩,e1,f⟩:=f.of;refine⟨Z,A,ρ,q,?_⟩;rw[e1];intro H1 q1 _ _;cases k with
 |true=>rw[hZ rfl] at f ⊢;exact⟨Z,A,ρ1,q1,f⟩
 |false=>rw[hV ZM] at f ⊢;exact⟨Z,A,ρ1,q1,f⟩⟩
def jQ (h:Ev->R (Bool×Ev))(s:Ev->SR):Nat->Ev->SR
 |0,_=>.stk
 |n+1,ρ=>SR.of (h ρ) λx=>if x.1=true then match s x.2 with
   | .nx ρ2=>jQ h s n ρ2
   | .ct ρ2=>jQ h s n ρ2
   | .bk ρ2=>.nx ρ2
   |r=>r
  else .nx x.2
theorem GK (hp:ae8 (aan X.prog X.w) X.A X.env X.xe)(hc:DT X G c b1 h1)(hb:Bq X G m body s1):DS X G m (.While c body [] pos) (jQ h1 s1 n):=⟨(F9 hp hc.un hb.un).to λD σ H h00=>by
 obtain⟨Z,A,ρ,q,f⟩:=h00;refine⟨λk σ H=>∃A ρ,cT X.K G Z A ρ σ H/\tL X.K G Z m (jQ h1 s1 k ρ) D,⟨n,A,ρ,q,f⟩,?_⟩;rintro k σ H ⟨A,ρ,q,f⟩;cases k with
 |zero=>exact f.elim
 |succ k=>
  unfold jQ at f;obtain⟨⟨t,ρ1⟩,e1,f⟩:=f.of;refine⟨Z,A,ρ,q,?_⟩;rw[e1];intro H1 q1 _ _;cases t with
  |false=>rw[hV ZM] at f ⊢;exact f A σ H1 q1
  |true=>
   rw[hZ rfl] at f ⊢;refine⟨λσ H=>∃A ρ,cT X.K G Z A ρ σ H/\tL X.K G Z m (jQ h1 s1 k ρ) D,λσ' H' z=>⟨k,Nat.lt_succ_self k,z⟩,Z,A,ρ1,q1,?_⟩;dsimp only at f;cases e2:s1 ρ1 with
   |nx ρ2=>rw[e2] at f;exact λA2 σ2 H2 q2=>⟨A2,ρ2,q2,f⟩
   |ct ρ2=>rw[e2] at f;exact λA2 σ2 H2 q2=>⟨A2,ρ2,q2,f⟩
   |bk ρ2=>rw[e2] at f;exact f
   |rt=>rw[e2] at f;exact f
   |exc=>rw[e2] at f;exact f
   |stk=>rw[e2] at f;exact f⟩
end
end L2
namespace L2
def Wk (K:ZN)(p:Bool)(A:Z_->Prop)(us:List U)(J:It)(H1:Hp):Prop:=us.length<=ZL/\
 ∀H A',(if p=true then aR H1 H else fZ A H1 H)->(∀b,A' b->A b\/H1 b=none)->(∀(i:Nat) (u:U),us[i]? = some u->J.go i H/\∀x H',J.yld i H x H'->aR H H'/\Rp K H' A' u x)/\J.stop us.length H
def Uv (K:ZN)(G:Gm)(b p:Bool)(gi:Ev->R (List U×Ev)):TI:=λσ H R=>∃Z A ρ,cT K G Z A ρ σ H/\match gi ρ with
 | .ok (us,ρ')=>∀J H1,cT K G Z A ρ' σ H1->fZ A H H1->(b=false->ρ'=ρ/\aR H H1)->Wk K p A us J H1->R J H1
 |_=>False
structure DI (X:Cx)(G:Gm)(tg iter:abH)(b p:Bool)(gi:Ev->R (List U×Ev)):Prop where
 un:PI X tg iter (Uv X.K G b p gi)
section
variable {e a b:abH}{es:List abH}{pos p1:Pos}{b1 b2 b3:Bool}{m m1 m2 m3 mr:Md}{g1 g2 g3:Ev->R (U×Ev)}{h1 h2:Ev->R (Bool×Ev)}{ga:Ev->R (List U×Ev)}{s1 s2:Ev->SR}
theorem PI.to {t t':TI}(h:PI X tg e t)(i:∀σ H Q,t' σ H Q->t σ H Q):PI X tg e t':=λpins s σ H Q I q=>h pins s σ H Q I (i _ _ _ q)
theorem PI.or {t t':TI}(h:PI X tg e t)(h':PI X tg e t'):PI X tg e (λσ H R=>t σ H R\/t' σ H R):=λpins s σ H Q I q=>by
 rcases q with q|q
 ·exact h pins s σ H Q I q
 ·exact h' pins s σ H Q I q
def oA:Md->Bool
 | .P=>true
 |_=>false
def c_ (g:Ev->R (U×Ev)):Ev->R (List U×Ev):=λρ=>(g ρ).bind λx=>match x.1 with
 | .lst us=>.ok (us,x.2)
 | .tup us=>.ok (us,x.2)
 | .scr us=>.ok (us,x.2)
 |_=>.stk
theorem KI (q:cT K G Z A ρ σ H1)(h:AW K G Z m1 A ρ σ H1 (.lst us) v):∃a,v=.ref a/\(∃xs,fu K H1 a xs)/\Wk K (oA m1) A us (Uk K a) H1:=by
 have hp:=h.pk;unfold Pk at hp;obtain⟨a,xs,rfl,rd,l,rs⟩:=hp;refine⟨a,rfl,⟨xs,fu.of rd⟩,l,λH A' hs ha=>?_⟩;have st:H a=some (.lst xs)/\∀(i:Nat) (u:U),us[i]? = some u->∃x,xs[i]? = some x/\Rp K H A' u x:=by
  cases hm:oA m1 with
  |true=>
   rw[hm,hZ rfl] at hs;refine⟨hs a _ rd,λi u hu=>?_⟩;obtain⟨x,h1,h2⟩:=rs.get hu;exact⟨x,h1,h2.re q.mu (fZ.same hs) ha⟩
  |false=>
   rw[hm,hV ZM] at hs;have hn:m1≠.P:=λz=>by subst z;cases hm
   have hr:=h.rp hn;unfold Rp at hr;obtain⟨a',xs',e,na,rd',_,rs'⟩:=hr;cases e;refine⟨hs a _ na rd,λi u hu=>?_⟩;obtain⟨x,h1,h2⟩:=rs.get hu;exact⟨x,h1,h2.re q.mu hs ha⟩
 obtain⟨rd2,get⟩:=st;refine⟨λi u hu=>?_,⟨xs,fu.of rd2,by rw[←rs.length];exact ZS _⟩⟩;obtain⟨x,h1,h2⟩:=get i u hu;refine⟨⟨xs,x,fu.of rd2,h1⟩,λy H' yl=>?_⟩;obtain⟨e,yl⟩:=yl;have e2:=yl xs (fu.of rd2);rw[h1] at e2;cases e2;subst e;exact⟨aR.refl _,h2⟩
theorem O1 {p:Bool}(q:cT K G Z A ρ σ H1)(h:Pk K H1 A (.tup us) v):∃a,v=.ref a/\(∃xs,iC K H1 a xs)/\Wk K p A us (U1 K a) H1:=by
 unfold Pk at h;obtain⟨a,xs,rfl,sq,l,rs⟩:=h;refine⟨a,rfl,⟨xs,iC.of sq⟩,l,λH A' hs ha=>?_⟩;have ex:fZ A H1 H:=by
  cases p with
  |true=>rw[hZ rfl] at hs;exact fZ.same hs
  |false=>rw[hV ZM] at hs;exact hs
 have QK:iC K H a xs:=iC.of (ex a _ (λz=>by have:=q.mu a z;rw[sq] at this;exact this) sq);refine⟨λi u hu=>?_,⟨xs,QK,by rw[←rs.length];exact ZS _⟩⟩;obtain⟨x,h1,h2⟩:=rs.get hu;refine⟨⟨xs,x,QK,h1⟩,λy H' yl=>?_⟩;obtain⟨e,yl⟩:=yl;have e2:=yl xs QK;rw[h1] at e2;cases e2;subst e;exact⟨aR.refl _,h2.re q.mu ex ha⟩
theorem O2 {p:Bool}(q:cT K G Z A ρ σ H1)(h:Pk K H1 A (.scr us) v):∃a,v=.ref a/\(∃xs,fu K H1 a xs)/\Wk K p A us (Uk K a) H1:=by
 unfold Pk at h;obtain⟨a,xs,rfl,sq,l,rs⟩:=h;refine⟨a,rfl,⟨xs,sq.sq⟩,l,λH A' hs ha=>?_⟩;have ex:fZ A H1 H:=by
  cases p with
  |true=>rw[hZ rfl] at hs;exact fZ.same hs
  |false=>rw[hV ZM] at hs;exact hs
 have QK:fu K H a xs:=(sq.to λo y w=>ex a _ (λz=>by have:=q.mu a z;rw[w] at this;exact this) w).sq;refine⟨λi u hu=>?_,⟨xs,QK,by rw[←rs.length];exact ZS _⟩⟩;obtain⟨x,h1,h2⟩:=rs.get hu;refine⟨⟨xs,x,QK,h1⟩,λy H' yl=>?_⟩;obtain⟨e,yl⟩:=yl;have e2:=yl xs QK;rw[h1] at e2;cases e2;subst e;exact⟨aR.refl _,h2.re q.mu ex ha⟩
theorem bt (h:DE X G e b1 m1 g1):DI X G tg e b1 (oA m1) (c_ g1):=⟨((Kh h.un).or (Oy h.un)).to λσ H RR h00=>by
 obtain⟨Z,A,ρ,q,f⟩:=h00;unfold c_ at f;cases e1:g1 ρ with
 |stk=>rw[e1] at f;exact f.elim
 |exc=>rw[e1] at f;exact f.elim
 |ok y=>
  obtain⟨u,ρ1⟩:=y;rw[e1] at f;cases u with
  |lst us=>
   refine .inl ⟨Z,A,ρ,q,?_⟩;rw[e1];intro v H1 q1 x1 s1 vm;obtain⟨a,e,l,wk⟩:=KI q1 vm;exact⟨a,e,l,f _ H1 q1 x1 s1 wk⟩
  |tup us=>
   refine .inr ⟨Z,A,ρ,q,?_⟩;rw[e1];intro v H1 q1 x1 s1 vm;obtain⟨a,e,l,wk⟩:=O1 (p:=oA m1) q1 vm.pk;exact⟨a,e,l,f _ H1 q1 x1 s1 wk⟩
  |scr us=>
   refine .inl ⟨Z,A,ρ,q,?_⟩;rw[e1];intro v H1 q1 x1 s1 vm;obtain⟨a,e,l,wk⟩:=O2 (p:=oA m1) q1 vm.pk;exact⟨a,e,l,f _ H1 q1 x1 s1 wk⟩
  |_=>exact f.elim⟩
def aY (lo:Int)(n:Nat):List U:=(ZU n).map λi=>.int (lo+(i:Nat))
theorem GL {lo:Int}{p:Bool}(h:n<=ZL):Wk K p A (aY lo n) (Ul lo n) H1:=by
 have hl:(aY lo n).length=n:=by unfold aY;rw[ZF,aaa]
 refine⟨by rw[hl];exact h,λH A' _ _=>⟨λi u hu=>?_,by rw[hl];exact ZS _⟩⟩;unfold aY at hu;rw[ZT] at hu;cases e:(ZU n)[i]? with
 |none=>rw[e] at hu;cases hu
 |some j=>
  rw[e] at hu;obtain⟨l1,l2⟩:=ZQ.mp e;rw[aaa] at l1;rw[adD] at l2;subst l2;cases hu;refine⟨l1,λx H' y=>?_⟩;obtain⟨rfl,rfl⟩:=y;exact⟨aR.refl _,dN⟩
def kY (ga:Ev->R (List U×Ev)):Ev->R (List U×Ev):=λρ=>(ga ρ).bind λx=>match x.1 with
 | [.int j]=>if -1000000<=j/\j<=1000000 then .ok (aY 0 j.toNat,x.2) else .stk
 |_=>.stk
theorem fS {a:abH}(ha:DA X G [a] b1 false ga)(hm:X.mg "range"=none)(hg:Gl X "range":=by rfl)(hs:Z8 [a] X.env=[(false,acD a X.env)]:=by rfl):DI X G tg (.Call (.Name "range" p1) [a] [] pos) b1 false (kY ga):=⟨(EF hg hm ha.un hs).to λσ H RR h00=>by
 obtain⟨Z,A,ρ,q,f⟩:=h00;unfold kY at f;cases e1:ga ρ with
 |stk=>rw[e1] at f;exact f.elim
 |exc=>rw[e1] at f;exact f.elim
 |ok y=>
  obtain⟨us,ρ1⟩:=y;rw[e1] at f;dsimp only[L2.R.bind] at f;refine⟨Z,A,ρ,q,?_⟩;rw[e1];intro vs H1 q1 x1 s1 vm;split at f
  ·rename_i VZ ρ' e2;split at e2
   ·rename_i j;split at e2
    ·rename_i hl;cases e2;have r:=vm.rps;unfold aH at r;obtain⟨v,vr,rfl,r1,r2⟩:=r;unfold aH at r2;subst r2;unfold Rp at r1;subst r1;exact⟨j,rfl,by lia,by lia,f _ H1 q1 x1 s1 (GL (by have:ZL=16777216:=rfl;lia))⟩
    ·cases e2
   ·cases e2
  ·exact f.elim⟩
def bY (sg:U->Ev->R Ev)(s:Ev->SR):List U->Ev->SR
 | [],ρ=>.nx ρ
 |u::us,ρ=>SR.of (sg u ρ) λρ1=>match s ρ1 with
   | .nx ρ2=>bY sg s us ρ2
   | .ct ρ2=>bY sg s us ρ2
   | .bk ρ2=>.nx ρ2
   |r=>r
def gO (gi:Ev->R (List U×Ev))(sg:U->Ev->R Ev)(s:Ev->SR):Ev->SR:=λρ=>SR.of (gi ρ) λx=>bY sg s x.1 x.2
open Classical in
def Pkg.lp (Z:Pkg)(A:Z_->Prop)(H:Hp):Pkg:={Z with B:=λb=>if A b/\Z.B b=none then none else H b}
theorem mw {b:Z_}(h1:A b)(h2:Z.B b=none):(Z.lp A H).B b=none:=by
 unfold Pkg.lp;dsimp only;exact hZ ⟨h1,h2⟩
theorem jG {b:Z_}(h:¬(A b/\Z.B b=none)):(Z.lp A H).B b=H b:=by
 unfold Pkg.lp;dsimp only;exact hV h
theorem tM {b:Z_}(h:(Z.lp A H).B b=none):(A b/\Z.B b=none)\/H b=none:=by
 by_cases c:A b/\Z.B b=none
 ·exact .inl c
 ·rw[jG c] at h;exact .inr h
theorem cT.lp (q:cT K G Z A ρ σ H):cT K G (Z.lp A H) A ρ σ H where
 slot:=λi u h=>by
  obtain⟨v,h1,h2⟩:=q.slot i u h;refine⟨v,h1,?_⟩;by_cases c:G.is i=true
  ·rw[hZ c] at h2 ⊢;obtain⟨a,e1,e2,e3,e4,e5⟩:=h2;exact⟨a,e1,e2,mw e2 e3,e4,e5⟩
  ·rw[hV c] at h2 ⊢;exact h2
 dis:=q.dis
 mu:=q.mu
 sup:=q.sup
 out:=λa h=>(q.out a h).imp id λz=>mw h z
 bas:=λa o h=>by
  by_cases c:A a/\Z.B a=none
  ·rw[mw c.1 c.2] at h;cases h
  ·rw[jG c] at h;exact h
 io0:=q.io0
 len:=q.len
theorem cT.unlp {A':Z_->Prop}{ρ':Ev}{σ':St}(q:cT K G Z A ρ σ H)(q':cT K G (Z.lp A H) A' ρ' σ' H'):cT K G Z A' ρ' σ' H':=by
 have sub:∀a,(Z.lp A H).B a=none->Z.B a=none:=λa h=>by
  rcases tM h with z|h
  ·exact z.2
  ·cases e:Z.B a with
   |none=>rfl
   |some o=>rw[q.bas a o e] at h;cases h
 exact {
  slot:=λi u h=>by
   obtain⟨v,h1,h2⟩:=q'.slot i u h;refine⟨v,h1,?_⟩;by_cases c:G.is i=true
   ·rw[hZ c] at h2 ⊢;obtain⟨a,e1,e2,e3,e4,e5⟩:=h2;exact⟨a,e1,e2,sub a e3,e4,e5⟩
   ·rw[hV c] at h2 ⊢;exact h2
  dis:=q'.dis
  mu:=q'.mu
  sup:=q'.sup
  out:=λa h=>(q'.out a h).imp id (sub a)
  bas:=λa o h=>q'.bas a o (by
   rw[jG (λz=>by rw[h] at z;exact nomatch z.2)];exact q.bas a o h)
  io0:=q'.io0
  len:=q'.len}
theorem tL.lp {r:SR}{D:nA}(q:cT K G Z A ρ σ H)(f:tL K G Z m r D):tL K G (Z.lp A H) m r D:=by
 cases r with
 |nx=>exact λA' σ' H' q'=>f A' σ' H' (q.unlp q')
 |bk=>exact λA' σ' H' q'=>f A' σ' H' (q.unlp q')
 |ct=>exact λA' σ' H' q'=>f A' σ' H' (q.unlp q')
 |rt u ρ'=>
  intro A' σ' H' v q' vm;refine f A' σ' H' v (q.unlp q') ?_;cases m with
  |S=>exact vm
  |P=>exact vm
  |O=>
   obtain⟨a,e,nb,na,t⟩:=vm;refine⟨a,e,?_,na,t⟩;rcases tM nb with z|h
   ·exact z.2
   ·cases e:Z.B a with
    |none=>rfl
    |some o=>rw[q.bas a o e] at h;cases h
 |exc=>exact λH' hb=>f H' λa o h=>hb a o (by
   rw[jG (λz=>by rw[h] at z;exact nomatch z.2)];exact q.bas a o h)
 |stk=>exact f.elim
theorem cU {gi:Ev->R (List U×Ev)}(hp:ae8 (aan X.prog X.w) X.A X.env X.xe)(hc:X.calm=true)(hi:DI X G tg iter b1 false gi)(hg:DG X G tg sg)(hb:Bq X G m body s1)(hs:∀x,abn iter X.env x=pure x:=by intro _;rfl):DS X G m (.For tg iter body [] pos) (gO gi sg s1):=⟨(CQ hp hc hi.un hg.un hb.un hs).to λD σ H h00=>by
 obtain⟨Z,A,ρ,q,f⟩:=h00;obtain⟨⟨us,ρ1⟩,e1,f⟩:=f.of;refine⟨Z,A,ρ,q,?_⟩;rw[e1];intro J H1 q1 x1 Cy wk;dsimp only at f;obtain⟨hz,wk⟩:=wk;refine⟨λi k σ H=>i+k=us.length/\∃A' ρ',cT X.K G (Z.lp A H1) A' ρ' σ H/\tL X.K G (Z.lp A H1) m (bY sg s1 (us.drop i) ρ') D,⟨us.length,by lia,A,ρ1,q1.lp,by rw[ac6];exact f.lp q1⟩,?_⟩;rintro i k σ H ⟨hk,A',ρ',q',f'⟩;have ex:fZ A H1 H:=λb o nb z=>q'.bas b o (by
  rw[jG (λy=>nb y.1)];exact z)
 have nw:∀b,A' b->A b\/H1 b=none:=λb z=>by
  rcases q'.out b z with y|y
  ·exact .inl (q1.sup b y)
  ·rcases tM y with w|h
   ·exact .inl w.1
   ·exact .inr h
 obtain⟨w1,w2⟩:=wk H A' (by rw[hV ZM];exact ex) nw;by_cases vU:i<us.length
 ·have eu:us[i]? = some us[i]:=ZH vU;obtain⟨go,yl⟩:=w1 i _ eu;rw[aaL vU] at f';unfold bY at f';obtain⟨ρ2,e2,f2⟩:=f'.of;refine .inr ⟨go,λσ H=>∃A' ρ',cT X.K G (Z.lp A H1) A' ρ' σ H/\tL X.K G (Z.lp A H1) m (bY sg s1 (us.drop (i+1)) ρ') D,λσ' H' z=>⟨k-1,by lia,by lia,z⟩,λx H' y=>?_⟩;obtain⟨sm,rp⟩:=yl x H' y;refine⟨Z.lp A H1,A',ρ',us[i],q'.same sm,rp,?_⟩;rw[e2];intro σ2 q2 _;refine⟨Z.lp A H1,A',ρ2,q2,?_⟩;cases e3:s1 ρ2 with
  |nx ρ3=>rw[e3] at f2;exact λA3 σ3 H3 q3=>⟨A3,ρ3,q3,f2⟩
  |ct ρ3=>rw[e3] at f2;exact λA3 σ3 H3 q3=>⟨A3,ρ3,q3,f2⟩
  |bk ρ3=>rw[e3] at f2;exact f2
  |rt=>rw[e3] at f2;exact f2
  |exc=>rw[e3] at f2;exact f2
  |stk=>rw[e3] at f2;exact f2
 ·have e:i=us.length:=by lia
  subst e;rw[acw] at f';exact .inl ⟨w2,f' A' σ H q'⟩⟩
end
end L2
namespace L2
def j3 (js:List (Option Nat))(ρ:Ev):Ev:=js.map λo=>match o with
 |none=>none
 |some j=>match ρ[j]? with
  |some v=>v
  |none=>none
def vp (G:Gm)(js:List (Option Nat)):Gm:=⟨js.map λo=>match o with
 |none=>false
 |some j=>G.is j,false,λ_=>False⟩
def pS:List (Option Nat)->Bool
 | []=>true
 |none::r=>pS r
 |some j::r=> !(r.contains (some j))&&pS r
theorem tN:∀{js:List (Option Nat)} {i k j:Nat},pS js=true->js[i]? = some (some j)->js[k]? = some (some j)->i=k
 | [],_,_,_,_,h,_=>by simp at h
 |none::r,i,k,j,ok,h1,h2=>by
  unfold pS at ok;cases i with
  |zero=>simp at h1
  |succ i=>
   cases k with
   |zero=>simp at h2
   |succ k=>exact congrArg (·+1) (tN (j:=j) ok (by simpa using h1) (by simpa using h2))
 |some j'::r,i,k,j,ok,h1,h2=>by
  unfold pS at ok;rw[Z7] at ok;have nm:∀n:Nat,r[n]? ≠ some (some j'):=λn h=>by
   have:=aa1 h;simp at ok;exact ok.1 this
  cases i with
  |zero=>
   cases k with
   |zero=>rfl
   |succ k=>simp at h1 h2;subst h1;exact absurd h2 (nm k)
  |succ i=>
   cases k with
   |zero=>simp at h1 h2;subst h2;exact absurd h1 (nm i)
   |succ k=>exact congrArg (·+1) (tN (j:=j) ok.2 (by simpa using h1) (by simpa using h2))
theorem oB (h:(j3 js ρ)[i]? = some (some u)):∃j,js[i]? = some (some j)/\ρ[j]? = some (some u):=by
 unfold j3 at h;rw[ZT] at h;cases e:js[i]? with
 |none=>rw[e] at h;cases h
 |some o=>
  rw[e] at h;cases o with
  |none=>cases h
  |some j=>
   refine⟨j,rfl,?_⟩;have h:=aab h;dsimp only at h;split at h
   ·rename_i v hv;rw[hv,h]
   ·cases h
theorem oC (h:js[i]? = some (some j))(hv:σ[j]? = some (some v)):(lD js σ)[i]? = some (some v):=by
 unfold lD;rw[ZT,h];dsimp only[Option.map];rw[hv]
theorem tP (h:js[i]? = some (some j)):(vp G js).is i=G.is j:=by
 unfold vp Gm.is;dsimp only;rw[aet,ZT,h];rfl
theorem CV (js:List (Option Nat))(ρ:Ev)(σ:St):(j3 js ρ).length=(lD js σ).length:=by
 unfold j3 lD;rw[ZF,ZF]
section
variable {ρi:Ev}
theorem CW (q:cT K G Z A ρ σ H)(ok:pS js=true):cT K (vp G js) ⟨λ_=>False,λ_=>none,0⟩ A (j3 js ρ) (lD js σ) H where
 slot:=λi u h=>by
  obtain⟨j,h1,h2⟩:=oB h;obtain⟨v,h3,h4⟩:=q.slot j u h2;refine⟨v,oC h1 h3,?_⟩;rw[tP h1];by_cases c:G.is j=true
  ·rw[hZ c] at h4 ⊢;obtain⟨a,e1,e2,_,_,e5⟩:=h4;exact⟨a,e1,e2,rfl,.inl id,e5⟩
  ·rw[hV c] at h4 ⊢;exact h4
 dis:=λi k u w a ci ck ne hi hk si sk=>by
  obtain⟨j,h1,h2⟩:=oB hi;obtain⟨j',TV,Ex⟩:=oB hk;rw[tP h1] at ci;rw[tP TV] at ck;obtain⟨b,e1,_⟩:=q.own ci h2;obtain⟨b',AS,_⟩:=q.own ck Ex;rw[oC h1 e1] at si;rw[oC TV AS] at sk;cases si;cases sk;exact q.dis j j' u w a ci ck (λz=>ne (by subst z;exact tN ok h1 TV)) h2 Ex e1 AS
 mu:=q.mu
 sup:=λ_ h=>h.elim
 out:=λ_ _=>.inr rfl
 bas:=λ_ _ h=>by cases h
 io0:=λh=>by cases h
 len:=CV js ρ σ
def KJ (G:Gm)(js:List (Option Nat))(ρ:Ev)(σ:St)(a:Z_):Prop:=∃(i j:Nat) (u:U),js[i]? = some (some j)/\G.is j=true/\ρ[j]? = some (some u)/\σ[j]? = some (some (.ref a))
open Classical in
def O3 (G:Gm)(js:List (Option Nat))(A:Z_->Prop)(ρ:Ev)(σ:St)(H:Hp):Pkg:=⟨λa=>A a/\¬KJ G js ρ σ a,λa=>if KJ G js ρ σ a then none else H a,0⟩
theorem tQ (h:KJ G js ρ σ a):(O3 G js A ρ σ H).B a=none:=by
 unfold O3;dsimp only;exact hZ h
theorem oD (h:¬KJ G js ρ σ a):(O3 G js A ρ σ H).B a=H a:=by
 unfold O3;dsimp only;exact hV h
theorem O4 (q:cT K G Z A ρ σ H)(ok:pS js=true):cT K (vp G js) (O3 G js A ρ σ H) A (j3 js ρ) (lD js σ) H where
 slot:=λi u h=>by
  obtain⟨j,h1,h2⟩:=oB h;obtain⟨v,h3,h4⟩:=q.slot j u h2;refine⟨v,oC h1 h3,?_⟩;rw[tP h1];by_cases c:G.is j=true
  ·rw[hZ c] at h4 ⊢;obtain⟨a,e1,e2,_,_,e5⟩:=h4;subst e1;have cp:KJ G js ρ σ a:=⟨i,j,u,h1,c,h2,h3⟩;exact⟨a,rfl,e2,tQ cp,.inl λz=>z.2 cp,e5⟩
  ·rw[hV c] at h4 ⊢;exact h4
 dis:=(CW q ok).dis
 mu:=q.mu
 sup:=λ_ h=>h.1
 out:=λa h=>by
  by_cases c:KJ G js ρ σ a
  ·exact .inr (tQ c)
  ·exact .inl ⟨h,c⟩
 bas:=λa o h=>by
  by_cases c:KJ G js ρ σ a
  ·rw[tQ c] at h;cases h
  ·rw[oD c] at h;exact h
 io0:=λh=>by cases h
 len:=CV js ρ σ
def lG:List (Option Nat)->Nat->Option Nat
 | [],_=>none
 |o::r,j=>if o=some j then some 0 else (lG r j).map (·+1)
theorem we:∀{js:List (Option Nat)} {i j:Nat},lG js j=some i->js[i]? = some (some j)
 | [],_,_,h=>by cases h
 |o::r,i,j,h=>by
  unfold lG at h;split at h
  ·rename_i e;cases h;rw[e];rfl
  ·cases e:lG r j with
   |none=>rw[e] at h;cases h
   |some k=>
    rw[e] at h;cases h;rw[aaR];exact we e
theorem tR:∀{js:List (Option Nat)} {i j:Nat},lG js j=none->js[i]? ≠ some (some j)
 | [],_,_,_=>by simp
 |o::r,i,j,h=>by
  unfold lG at h;split at h
  ·cases h
  ·rename_i ne;cases e:lG r j with
   |some k=>rw[e] at h;cases h
   |none=>
    cases i with
    |zero=>intro z;exact ne (aab z)
    |succ i=>rw[aaR];exact tR e
def wb (G:Gm)(js:List (Option Nat))(ρi ρ:Ev):Ev:=ρ.mapIdx λj x=>if (G.is j&&x.isSome)=true then (match lG js j with
 |some i=>(ρi[i]?).getD none
 |none=>x) else x
theorem Br (h:(wb G js ρi ρ)[j]? = some (some u)):∃u0,ρ[j]? = some (some u0)/\((G.is j=true/\∃i,lG js j=some i/\ρi[i]? = some (some u))\/(u0=u/\(G.is j=false\/lG js j=none))):=by
 unfold wb at h;rw[List.getElem?_mapIdx] at h;cases e:ρ[j]? with
 |none=>rw[e] at h;cases h
 |some x=>
  rw[e] at h;have h:=aab h;cases x with
  |none=>simp at h
  |some u0=>
   refine⟨u0,rfl,?_⟩;dsimp only at h;by_cases c:G.is j=true
   ·rw[hZ (by rw[c];rfl)] at h;split at h
    ·rename_i i hi;refine .inl ⟨c,i,hi,?_⟩;cases e2:ρi[i]? with
     |none=>rw[e2] at h;cases h
     |some y=>rw[e2] at h;simp at h;rw[h]
    ·rename_i hi;exact .inr ⟨aab h,.inr hi⟩
   ·have c:G.is j=false:=acW.mpr c;rw[hV (by rw[c];exact ZM)] at h;exact .inr ⟨aab h,.inl c⟩
theorem cT.wb {σ4:St}(q:cT K G Z A ρ σ H)(ok:pS js=true)(q':cT K (vp G js) (O3 G js A ρ σ H) A ρi σ4 H')(ho:∀i,(vp G js).is i=true->σ4[i]? = (lD js σ)[i]?):cT K G Z A (L2.wb G js ρi ρ) σ H'/\fZ A H H':=by
 have TX:∀a,KJ G js ρ σ a->A a/\Z.B a=none:=λa h00=>by
  obtain⟨i,j,u,h1,h2,h3,h4⟩:=h00;obtain⟨b,e1,e2,e3,_⟩:=q.own h2 h3;rw[h4] at e1;cases e1;exact⟨e2,e3⟩
 have ex:fZ A H H':=λb o nb z=>q'.bas b o (by rw[oD λc=>nb (TX b c).1];exact z);refine⟨{
  slot:=λj u h=>?_
  dis:=λi k u w a ci ck ne hi hk si sk=>by
   obtain⟨u1,h1,_⟩:=Br hi;obtain⟨u2,h2,_⟩:=Br hk;exact q.dis i k u1 u2 a ci ck ne h1 h2 si sk
  mu:=q'.mu
  sup:=q.sup
  out:=q.out
  bas:=λa o h=>q'.bas a o (by
   rw[oD λc=>by rw[(TX a c).2] at h;cases h];exact q.bas a o h)
  io0:=q.io0
  len:=by unfold L2.wb;rw[List.length_mapIdx];exact q.len},ex⟩
 obtain⟨u0,h0,hh⟩:=Br h;rcases hh with⟨c,i,hi,hu⟩|⟨rfl,hc⟩
 ·have hj:=we hi;obtain⟨a,e1,e2,e3,e4,_⟩:=q.own c h0;have ci:(vp G js).is i=true:=by rw[tP hj];exact c
  obtain⟨a',k1,k2,_,_,k5⟩:=q'.own ci hu;rw[ho i ci,oC hj e1] at k1;cases k1;refine⟨.ref a,e1,?_⟩;rw[hZ c];exact⟨a,rfl,e2,e3,e4,k5⟩
 ·obtain⟨v,h1,h2⟩:=q.slot j u0 h0;refine⟨v,h1,?_⟩;by_cases c:G.is j=true
  ·rw[hZ c] at h2 ⊢;obtain⟨a,rfl,e2,e3,e4,e5⟩:=h2;have hc:lG js j=none:=by
    rcases hc with hc|hc
    ·rw[c] at hc;cases hc
    ·exact hc
   have nc:¬KJ G js ρ σ a:=λh00=>by
    obtain⟨i,j',u,z1,z2,z3,z4⟩:=h00;have ne:j≠j':=λz=>by subst z;exact tR hc z1
    exact q.dis j j' u0 u a c z2 ne h0 z3 h1 z4
   exact⟨a,rfl,e2,e3,e4,e5.re q.mu ex (λb z=>.inl z) λo z=>q'.bas a o (by rw[oD nc];exact z)⟩
  ·rw[hV c] at h2 ⊢;exact h2.re q.mu ex λb z=>.inl z
end
def AX (f:U->R (Option U)):List U->R (List U)
 | []=>.ok []
 |u::us=>(f u).bind λo=>(AX f us).bind λr=>.ok (match o with
  |some y=>y::r
  |none=>r)
def oE (js:List (Option Nat))(sg:U->Ev->R Ev)(gt:Ev->R (Bool×Ev))(ge:Ev->R (U×Ev))(ρ:Ev)(u:U):R (Option U):=
 (sg u (j3 js ρ)).bind λρi=>(gt ρi).bind λc=>if c.1=true then (ge ρi).bind λy=>.ok (some y.1) else .ok none
def gE (gi:Ev->R (List U×Ev))(js:List (Option Nat))(sg:U->Ev->R Ev)(gt:Ev->R (Bool×Ev))(ge:Ev->R (U×Ev)):Ev->R (U×Ev):=λρ=>
 (gi ρ).bind λx=>(AX (oE js sg gt ge x.2) x.1).bind λys=>.ok (.lst ys,x.2)
def rD (G:Gm)(js:List (Option Nat))(sg:U->Ev->R Ev)(gt:Ev->R (Bool×Ev))(ge:Ev->R (U×Ev)):List U->Ev->R (List U×Ev)
 | [],ρ=>.ok ([],ρ)
 |u::us,ρ=>(sg u (j3 js ρ)).bind λρi=>(gt ρi).bind λc=>if c.1=true then (ge c.2).bind λy=>(rD G js sg gt ge us (wb G js y.2 ρ)).bind λr=>.ok (y.1::r.1,r.2) else rD G js sg gt ge us (wb G js c.2 ρ)
def KL (G:Gm)(gi:Ev->R (List U×Ev))(js:List (Option Nat))(sg:U->Ev->R Ev)(gt:Ev->R (Bool×Ev))(ge:Ev->R (U×Ev)):Ev->R (U×Ev):=λρ=>
 (gi ρ).bind λx=>(rD G js sg gt ge x.1 x.2).bind λy=>.ok (.lst y.1,y.2)
theorem R.bind_ok {α β:Type}{x:R α}{k:α->R β}{b:β}(h:x.bind k=.ok b):∃a,x=.ok a/\k a=.ok b:=by
 cases x with
 |ok a=>exact⟨a,rfl,h⟩
 |exc=>cases h
 |stk=>cases h
section
variable {e:abH}{pos:Pos}{b1 b2 b3 p:Bool}{m me:Md}{gi:Ev->R (List U×Ev)}{gt:Ev->R (Bool×Ev)}{ge:Ev->R (U×Ev)}
theorem zi (ok:pS js=true)(hn:me≠.P){Q:VK}(h:tD X.K G b1 .O (gE gi js sg gt ge) σ H Q) :
  Uq (Uv X.K G b1 p gi) js (λ_=>Vf X.K (vp G js) sg) (λ_=>FW X.K (vp G js) false gt) (λ_=>tD X.K (vp G js) false me ge) σ H Q:=by
 obtain⟨Z,A,ρ,q,f⟩:=h;obtain⟨⟨us,ρ1⟩,e1,f⟩:=f.bind;obtain⟨all,e2,f⟩:=f.bind;refine⟨Z,A,ρ,q,?_⟩;rw[e1];intro J H1 q1 x1 s1 ⟨hz,wk⟩ Y;dsimp only at e2 f;refine⟨λi k ys H2=>i+k=us.length/\aR H1 H2/\∃done rest,AX (oE js sg gt ge ρ1) (us.drop i)=.ok rest/\done++rest=all/\aH X.K H2 A done ys/\done.length<=i,
  ⟨us.length,by lia,aR.refl _,[],all,by rw[ac6];exact e2,rfl,aH.nil,ZS _⟩,?_⟩
 rintro i k ys H2 ⟨hk,sm,done,rest,e3,e4,rs,hd⟩;have q2:=q1.same sm;obtain⟨w1,w2⟩:=wk H2 A (by split;exact sm;exact fZ.same sm) λb z=>.inl z;by_cases vU:i<us.length
 ·have eu:us[i]? = some us[i]:=ZH vU;obtain⟨go,yl⟩:=w1 i _ eu;rw[aaL vU] at e3;unfold AX at e3;obtain⟨o,e5,e3⟩:=R.bind_ok e3;obtain⟨r,e6,e3⟩:=R.bind_ok e3;unfold oE at e5;obtain⟨ρi,e7,e5⟩:=R.bind_ok e5;obtain⟨⟨c,ρc⟩,e8,e5⟩:=R.bind_ok e5;refine .inr ⟨go,by rw[←rs.length];lia,λOb H'=>aR H1 H'/\∃done,done++r=all/\aH X.K H' A done Ob/\done.length<=i+1,λOb H' ⟨z1,dn,z2,z3,z4⟩=>⟨k-1,by lia,by lia,z1,dn,r,e6,z2,z3,z4⟩,λx H3 y=>?_⟩;obtain⟨sm3,rp⟩:=yl x H3 y;refine⟨_,A,j3 js ρ1,us[i],(CW (q2.same sm3) ok),rp,?_⟩;rw[e7];intro σ4 q4 _;refine⟨_,A,ρi,q4,?_⟩;rw[e8];intro H5 q5 x5 s5;obtain⟨rfl,sm5⟩:=s5 rfl;cases c with
  |false=>
   rw[hV ZM] at e5 ⊢;cases e5;cases e3;exact⟨(sm.trans sm3).trans sm5,done,e4,(rs.same sm3).same sm5,by lia⟩
  |true=>
   rw[hZ rfl] at e5 ⊢;obtain⟨⟨y1,ρy⟩,e9,e5⟩:=R.bind_ok e5;cases e5;cases e3;refine⟨_,A,ρc,q5,?_⟩;rw[e9];intro v H6 q6 x6 s6 vm;obtain⟨rfl,sm6⟩:=s6 rfl;have Xe:=sm3.trans (sm5.trans sm6);exact⟨sm.trans Xe,done++[y1],by rw[abD];exact e4,(rs.same Xe).append (aH.cons (vm.rp hn) aH.nil),by rw[Z3];simp;lia⟩
 ·have e:i=us.length:=by lia
  subst e;rw[acw] at e3;cases e3;rw[aaW] at e4;subst e4;refine .inl ⟨w2,λa na=>?_⟩;have sn:=cR na (.lst ys);exact f _ _ (q2.same sn) ((x1.trans (fZ.same sm)).trans (fZ.same sn)) (vA (vA s1 sm) sn) (FV.e q2 sn ⟨a,rfl,na,di q2.mu rs na (by lia)⟩)
theorem GN (ok:pS js=true)(hn:me≠.P){Q:VK}(h:tD X.K G true .O (KL G gi js sg gt ge) σ H Q) :
  Uq (Uv X.K G b1 false gi) js (λ_=>Vf X.K (vp G js) sg) (λ_=>FW X.K (vp G js) b2 gt) (λ_=>tD X.K (vp G js) b3 me ge) σ H Q:=by
 obtain⟨Z,A,ρ,q,f⟩:=h;obtain⟨⟨us,ρ1⟩,e1,f⟩:=f.bind;obtain⟨⟨all,ρe⟩,e2,f⟩:=f.bind;refine⟨Z,A,ρ,q,?_⟩;rw[e1];intro J H1 q1 x1 s1 ⟨hz,wk⟩ Y;dsimp only at e2 f;refine⟨λi k ys H2=>i+k=us.length/\fZ A H1 H2/\∃ρ2 done rest,cT X.K G Z A ρ2 σ H2/\rD G js sg gt ge (us.drop i) ρ2=.ok (rest,ρe)/\done++rest=all/\aH X.K H2 A done ys/\done.length<=i,
  ⟨us.length,by lia,fZ.refl,ρ1,[],all,q1,by rw[ac6];exact e2,rfl,aH.nil,ZS _⟩,?_⟩
 rintro i k ys H2 ⟨hk,ex,ρ2,done,rest,q2,e3,e4,rs,hd⟩;obtain⟨w1,w2⟩:=wk H2 A (by rw[hV ZM];exact ex) λb z=>.inl z;by_cases vU:i<us.length
 ·have eu:us[i]? = some us[i]:=ZH vU;obtain⟨go,yl⟩:=w1 i _ eu;rw[aaL vU] at e3;unfold rD at e3;obtain⟨ρi,e7,e3⟩:=R.bind_ok e3;obtain⟨⟨c,ρc⟩,e8,e3⟩:=R.bind_ok e3;refine .inr ⟨go,by rw[←rs.length];lia,λOb H'=>fZ A H1 H'/\∃ρ2 done rest,cT X.K G Z A ρ2 σ H'/\rD G js sg gt ge (us.drop (i+1)) ρ2=.ok (rest,ρe)/\done++rest=all/\aH X.K H' A done Ob/\done.length<=i+1,λOb H' z=>⟨k-1,by lia,by lia,z⟩,λx H3 y=>?_⟩;obtain⟨sm3,rp⟩:=yl x H3 y;have q3:=q2.same sm3;refine⟨O3 G js A ρ2 σ H3,A,j3 js ρ2,us[i],O4 q3 ok,rp,?_⟩;rw[e7];intro σ4 q4 o4;refine⟨_,A,ρi,q4,?_⟩;rw[e8];intro H5 q5 x5 s5;dsimp only at e3;cases c with
  |false=>
   rw[hV ZM] at e3 ⊢;obtain⟨q6,x6⟩:=q3.wb ok q5 o4;exact⟨ex.trans ((fZ.same sm3).trans x6),_,done,rest,q6,e3,e4,(rs.same sm3).re q3.mu x6 (λb z=>.inl z),by lia⟩
  |true=>
   rw[hZ rfl] at e3 ⊢;obtain⟨⟨y1,ρy⟩,e9,e3⟩:=R.bind_ok e3;obtain⟨⟨r,ρr⟩,e10,e3⟩:=R.bind_ok e3;cases e3;refine⟨_,A,ρc,q5,?_⟩;rw[e9];intro v H6 q6 x6 s6 vm;obtain⟨q7,x7⟩:=q3.wb ok q6 o4;exact⟨ex.trans ((fZ.same sm3).trans x7),_,done++[y1],r,q7,e10,by rw[abD];exact e4,((rs.same sm3).re q3.mu x7 (λb z=>.inl z)).append (aH.cons (vm.rp hn) aH.nil),by rw[Z3];simp;lia⟩
 ·have e:i=us.length:=by lia
  subst e;rw[acw] at e3;cases e3;rw[aaW] at e4;subst e4;refine .inl ⟨w2,λa na=>?_⟩;have sn:=cR na (.lst ys);exact f _ _ (q2.same sn) ((x1.trans ex).trans (fZ.same sn)) (λz=>nomatch z) (FV.e q2 sn ⟨a,rfl,na,di q2.mu rs na (by lia)⟩)
structure GO (X:Cx)(G:Gm)(vg:List abH)(b:Bool)(h:Ev->R (Bool×Ev)):Prop where
 un:ER X vg (FW X.K G b h)
def cu:Ev->R (Bool×Ev):=λρ=>.ok (true,ρ)
theorem bA:GO X G [] false cu:=⟨λpins s σ H Q I ⟨Z,A,ρ,q,f⟩=>Gp pins s σ H Q I (f H q fZ.refl λ_=>⟨rfl,aR.refl _⟩)⟩
theorem GP {h:Ev->R (Bool×Ev)}(hc:DT X G e b1 h):GO X G [e] b1 h:=⟨Gq hc.un⟩
variable {jD lu:Pos}
end
end L2
namespace L2
def bO (n:Nat)(us:List U):Ev:=us.map some++abg (n-us.length) none
def cV (m:Md)(n:Nat)(s:Ev->SR):List U->R U:=λus=>match s (bO n us) with
 | .rt u _=>.ok u
 | .nx _=>if m=.S then .ok .non else .stk
 | .exc c u=>.exc c u
 |_=>.stk
def Bs (n:Nat)(s:Ev->SR):List U->R (U×U):=λus=>match s (bO n us) with
 | .rt u ρ=>match ρ[0]? with
  |some (some w)=>.ok (u,w)
  |_=>.stk
 | .nx ρ=>match ρ[0]? with
  |some (some w)=>.ok (.non,w)
  |_=>.stk
 | .exc c u=>.exc c u
 |_=>.stk
theorem oF (h:(bO n us)[i]? = some (some u)):us[i]? = some u:=by
 unfold bO at h;by_cases c:i<(us.map some).length
 ·rw[abI c,ZT] at h;cases e:us[i]? with
  |none=>rw[e] at h;cases h
  |some w=>rw[e] at h;simp at h;rw[h]
 ·rw[ab4 (by lia),List.getElem?_replicate] at h;split at h
  ·cases h
  ·cases h
theorem mx (h:vs[i]? = some v):(adp N vs)[i]? = some (some v):=by
 unfold adp;have c:i<(vs.map some).length:=by rw[ZF];exact (ZQ.mp h).1
 rw[abI c,ZT,h];rfl
theorem CY (h:us.length=vs.length):(bO N.length us).length=(adp N vs).length:=by
 unfold bO adp;rw[Z3,Z3,ZF,ZF,ad5,ad5,h]
section
variable {base:acz}
theorem xt (G:Gm)(m:Md)(s:Ev->SR)(J3:G.io=false)(se:∀i,i<ps.length->G.is i=false)(jq:∀(f:Z_) (cQ:ZR) (A:aaC) (outer:List Env) (s0:Z5) (H:Hp) (E:XK),f9 k (A.deeper (aeG x (ao st) s0.heap.objs.size f cQ))->
   Bq (rA yY P w K mg base N x (ao st) f cQ A outer s0 H E).nox G m (cP st) s) :
  (∀vs H Q E,eK K ps.length (cV m N.length s) m vs H Q E->vs.length=ps.length)/\∀(f:Z_) (cQ:ZR) (A:aaC) (outer:List Env) (s0:Z5) (H:Hp) (vs:List V) (Q:VK) (E:XK),f9 k (A.deeper (aeG x (ao st) s0.heap.objs.size f cQ))->eK K ps.length (cV m N.length s) m vs H Q E->
   ∃t,vt (rA yY P w K mg base N x (ao st) f cQ A outer s0 H E).nox (cP st) t/\t {nx:=λ_ H'=>Q .non H',rt:=Q} (adp N vs) H:=by
 have hl:∀(us:List U) (A:Z_->Prop) (H:Hp) (Q:VK),RS K m A H (Bp ps.length (cV m N.length s) us) Q->us.length=ps.length:=λus A H Q h=>by
  unfold Bp at h;split at h
  ·assumption
  ·exact h.elim
 refine⟨λvs H Q E ⟨us,A,r,_,h⟩=>by rw[←r.length];exact hl us A H Q h,λf cQ A outer s0 H vs Q E hr ⟨us,A0,r,mu,h⟩=>⟨_,(jq f cQ A outer s0 H E hr).un,?_⟩⟩;have l:=hl us A0 H Q h;unfold Bp at h;rw[hZ l] at h;refine⟨⟨A0,H,0⟩,A0,bO N.length us,?_,?_⟩
 ·exact {
   slot:=λi u hu=>by
    have hu:=oF hu;obtain⟨v,h1,h2⟩:=r.get hu;refine⟨v,mx h1,?_⟩;rw[hV (by rw[se i (by rw[←l];exact (ZQ.mp hu).1)];exact ZM)];exact h2
   dis:=λi j u w a ci cj ne hi hj si sj=>by
    rw[se i (by rw[←l];exact (ZQ.mp (oF hi)).1)] at ci;cases ci
   mu:=mu
   sup:=λa h=>h
   out:=λa h=>.inl h
   bas:=λa o h=>h
   io0:=λh=>by rw[J3] at h;cases h
   len:=CY r.length}
 ·unfold cV at h;cases e:s (bO N.length us) with
  |nx ρ'=>
   rw[e] at h;dsimp only at h;intro A' σ' H' q;split at h
   ·rename_i hm;subst hm;exact h _ H' q.bas (show Rp K H' A0 .non .non from tK)
   ·exact h.elim
  |rt u ρ'=>
   rw[e] at h;intro A' σ' H' v q vm;refine h v H' q.bas ?_;cases m with
   |S=>exact vm
   |P=>exact vm.elim
   |O=>
    obtain⟨a,e1,e2,e3,e4⟩:=vm;exact⟨a,e1,e2,e4⟩
  |bk=>rw[e] at h;exact h.elim
  |ct=>rw[e] at h;exact h.elim
  |exc=>rw[e] at h;exact h.elim
  |stk=>rw[e] at h;exact h.elim
theorem Df.fnD (G:Gm)(m:Md)(s:Ev->SR)(d:Df K mg x st)(S:aN N ps (ao st))(hb:∀(kV pK pm:ZR) (an:Option Z_) (cQ ct:ZR) (us:List ZR),us.length=ps.length->bindArgs (abA x x (gb st) (cP st) (ao st) .none kV pK pm an cQ ct) ⟨us,[]⟩=pure (ps.zip us))(J3:G.io=false)(se:∀i,i<ps.length->G.is i=false)(jq:∀(f:Z_) (cQ:ZR) (A:aaC) (outer:List Env) (s0:Z5) (H:Hp) (E:XK),f9 k (A.deeper (aeG x (ao st) s0.heap.objs.size f cQ))->
   Bq (rA yY P w K mg base N x (ao st) f cQ A outer s0 H E).nox G m (cP st) s):Fn P w K mg base x (k+1) ps (eK K ps.length (cV m N.length s) m):=
 d.fn S hb (xt G m s J3 se jq).1 (xt G m s J3 se jq).2
theorem JY.okD (G:Gm)(m:Md)(s:Ev->SR)(F:JY K x x st f fd)(S:aN N ps (ao st))(J3:G.io=false)(se:∀i,i<ps.length->G.is i=false)(jq:∀(f:Z_) (cQ:ZR) (A:aaC) (outer:List Env) (s0:Z5) (H:Hp) (E:XK),f9 k (A.deeper (aeG x (ao st) s0.heap.objs.size f cQ))->
   Bq (rA yY P w K mg base N x (ao st) f cQ A outer s0 H E).nox G m (cP st) s):mP P w K mg base yY (k+1) f fd ps (eK K ps.length (cV m N.length s) m):=
 F.ok S (xt G m s J3 se jq).1 ((xt G m s J3 se jq).2 f)
def zj (K:ZN):Sp:=λvs H Q _=>∃(a:Z_) (ns:List Int),vs=[.ref a]/\Kw K H a (ns.map V.int)/\ns.length<=63/\∀H',Q (.bl true) H'
theorem O5 (hO:Kp H)(h:fu K H a xs):Kw K H a xs:=by
 rcases h with (h|h)|h
 ·rcases hO a with z|⟨o,ys,z⟩
  ·rw[h] at z;cases z
  ·rw[h] at z;cases z
 ·exact .inl h
 ·exact .inr h
theorem zk {H:Hp}{A:Z_->Prop}:∀(ns:List Int),aH K H A (ns.map .int) (ns.map V.int)
 | []=>aH.nil
 |n::ns=>aH.cons dN (zk ns)
theorem O6 {f:List U->R U}{fa:Z_}(F:mP P w K mg base yY k fa fd ["script"] (eK K 1 f .S))(h:∀ns:List Int,ns.length<=63->f [.scr (ns.map .int)]=.ok (.bl true)):mP P w K mg base yY k fa fd ["script"] (zj K):=by
 refine F.imp λvs H Q E ⟨a,ns,e,sc,l,q⟩=>?_;subst e;have hl:(ns.map U.int).length<=ZL:=by rw[ZF];have:ZL=16777216:=rfl;lia
 refine⟨[.scr (ns.map .int)],λ_=>False,aH.cons ?_ aH.nil,λ_ h=>h.elim,?_⟩
 ·unfold Rp;exact⟨a,_,rfl,sc,hl,zk ns⟩
 ·have e:Bp 1 f [.scr (ns.map .int)]=.ok (.bl true):=(hZ rfl).trans (h ns l);rw[e];intro v H' sm vm;have vm:Rp K H' (λ_=>False) (.bl true) v:=vm;unfold Rp at vm;subst vm;exact q H'
theorem Df.fnI (G:Gm)(s:Ev->SR)(d:Df K mg x st)(S:aN N ps (ao st))(hb:∀(kV pK pm:ZR) (an:Option Z_) (cQ ct:ZR) (us:List ZR),us.length=ps.length->bindArgs (abA x x (gb st) (cP st) (ao st) .none kV pK pm an cQ ct) ⟨us,[]⟩=pure (ps.zip us))(J3:G.io=true)(h0:G.is 0=true)(se:∀i,i<ps.length->i≠0->G.is i=false)(jq:∀(f:Z_) (cQ:ZR) (A:aaC) (outer:List Env) (s0:Z5) (H:Hp) (E:XK),f9 k (A.deeper (aeG x (ao st) s0.heap.objs.size f cQ))->
   Bq (rA yY P w K mg base N x (ao st) f cQ A outer s0 H E).nox G .S (cP st) s):Fn P w K mg base x (k+1) ps (FX K ps.length (Bs N.length s)):=by
 refine d.fn S hb ?_ ?_
 ·rintro vs H Q E ⟨u0,us,a0,vs',A,rfl,_,_,r,_,h⟩;unfold Bp at h;split at h
  ·rename_i e;split at e
   ·rename_i l;rw[Z0,←r.length,←l];rfl
   ·cases e
  ·exact h.elim
 ·rintro f cQ A outer s0 H vs Q E hr ⟨u0,us,a0,vs',A0,rfl,ha,t0,r,mu,h⟩;refine⟨_,(jq f cQ A outer s0 H E hr).un,?_⟩;have l:(u0::us).length=ps.length:=by
   unfold Bp at h;by_cases c:(u0::us).length=ps.length
   ·exact c
   ·rw[hV c] at h;exact h.elim
  unfold Bp at h;rw[hZ l] at h
  let Z:Pkg:=⟨A0,λb=>if b=a0 then none else H b,a0⟩
  have zb:∀b o,b≠a0->H b=some o->Z.B b=some o:=λb o nb z=>by
   show (if b=a0 then none else H b)=some o;rw[hV nb];exact z
  have rel:cT K G Z A0 (bO N.length (u0::us)) (adp N (.ref a0::vs')) H:={
   slot:=λi u hu=>by
    have hu:=oF hu;cases i with
    |zero=>
     simp at hu;subst hu;refine⟨.ref a0,mx (by simp),?_⟩;rw[hZ h0];exact⟨a0,rfl,ha,by show (if a0=a0 then none else H a0)=none;rw[hZ rfl],.inr ⟨J3,rfl⟩,t0⟩
    |succ i=>
     have hl:=(ZQ.mp hu).1;rw[aaR] at hu;obtain⟨v,h1,h2⟩:=r.get hu;refine⟨v,mx (by rw[aaR];exact h1),?_⟩;rw[hV (by rw[se (i+1) (by rw[←l];exact hl) (by lia)];exact ZM)];exact h2
   dis:=λi j u w a ci cj ne hi hj si sj=>by
    have hi:=(ZQ.mp (oF hi)).1;have hj:=(ZQ.mp (oF hj)).1;by_cases e:i=0
    ·rw[se j (by rw[←l];exact hj) (by lia)] at cj;cases cj
    ·rw[se i (by rw[←l];exact hi) e] at ci;cases ci
   mu:=mu
   sup:=λa h=>h
   out:=λa h=>.inl h
   bas:=λa o h=>by
    by_cases c:a=a0
    ·have h:(if a=a0 then none else H a)=some o:=h;rw[hZ c] at h;cases h
    ·have h:(if a=a0 then none else H a)=some o:=h;rw[hV c] at h;exact h
   io0:=λ_=>⟨mx (vs:=.ref a0::vs') (i:=0) (v:=.ref a0) rfl,h0⟩
   len:=CY (by rw[Z0,Z0,r.length])}
  have fin:∀(A':Z_->Prop) (ρ':Ev) (σ':St) (H':Hp) (w:U),cT K G Z A' ρ' σ' H'->ρ'[0]? = some (some w)->(∀b o,b≠a0->H b=some o->H' b=some o)/\k9 K H' A0 w a0:=λA' ρ' σ' H' w q hw=>by
   obtain⟨a,e1,e2,e3,e4,e5⟩:=q.own h0 hw;rw[(q.io0 J3).1] at e1;cases e1;exact⟨λb o nb z=>q.bas b o (zb b o nb z),e5.mono q.sup⟩
  refine⟨Z,A0,_,rel,?_⟩;unfold Bs at h;cases e:s (bO N.length (u0::us)) with
  |nx ρ'=>
   rw[e] at h;dsimp only at h;intro A' σ' H' q;split at h
   ·rename_i hm;split at hm
    ·rename_i w hw;cases hm;obtain⟨z1,z2⟩:=fin A' ρ' σ' H' _ q hw;exact h _ H' z1 z2 tK
    ·cases hm
   ·exact h.elim
  |rt u ρ'=>
   rw[e] at h;dsimp only at h;intro A' σ' H' v q vm;split at h
   ·rename_i hm;split at hm
    ·rename_i w hw;cases hm;obtain⟨z1,z2⟩:=fin A' ρ' σ' H' _ q hw;exact h _ H' z1 z2 vm
    ·cases hm
   ·exact h.elim
  |bk=>rw[e] at h;exact h.elim
  |ct=>rw[e] at h;exact h.elim
  |exc=>rw[e] at h;exact h.elim
  |stk=>rw[e] at h;exact h.elim
end
section
variable {e e2:abH}{pos p1 p2:Pos}{y:Str}{b1 b2:Bool}{m m1 m2:Md}{g1 g2:Ev->R (U×Ev)}
def zm (i:Nat)(gv gk:Ev->R (U×Ev)):Ev->SR:=λρ=>SR.of (gv ρ) λx=>if live x.2 i=true then SR.of (gk x.2) λy=>match y.1 with
 | .int k=>match y.2[i]? with
  |some (some (.lst us))=>match Bf us.length k with
   |some j=>.nx (y.2.set i (some (.lst (us.set j x.1))))
   |none=>.stk
  |_=>.stk
 |_=>.stk
 else .stk
theorem xu (he:DE X G e b1 m1 g1)(hk:DE X G e2 b2 m2 g2)(hn:m1≠.P:=by decide)(hN:X.N[i]? = some y:=by rfl)(hv:A8 X.env.scope y:=by first|exact Or.inl rfl|exact Or.inr (Or.inl rfl)|exact Or.inr (Or.inr rfl))(c:G.is i=true:=by rfl)(hd:(y==("__debug__":Str))=false:=by decide)(ly:(y==("__classdict__":Str))=false:=by decide)(ha:∀v,ad3 (.Subscript (.Name y p1) e2 p2) X.env v=(do
   let ov ←adi [v] (acD (.Name y p1) X.env)
   let iv ←adi [v,ov] (acD e2 X.env)
   standAt p2
   adi [v,ov,iv] (setItem ov iv v)
   release [v,ov,iv] []):=by intro _;rfl)(hs:swapsWithSole [.Subscript (.Name y p1) e2 p2] e pos.line X.env=pure false:=by rfl)(hw:swappedStores [.Subscript (.Name y p1) e2 p2] e X.env=pure none:=by rfl)(h1:(abf [.Subscript (.Name y p1) e2 p2] X.env).map (·.2)=[ad3 (.Subscript (.Name y p1) e2 p2) X.env]:=by rfl):DS X G m (.Assign [.Subscript (.Name y p1) e2 p2] e pos) (zm i g1 g2):=⟨(Ba he.un (A_ (f6 hN hv hd ly) hk.un s9 ha) hs hw h1).to λD σ H h00=>by
 obtain⟨Z,A,ρ,q,f⟩:=h00;obtain⟨⟨u,ρ1⟩,e1,f⟩:=f.of;refine⟨Z,A,ρ,q,?_⟩;rw[e1];intro v H1 q1 x1 s1 vm;dsimp only at f;split at f
 ·rename_i hl;obtain⟨u00,hu0⟩:=sF hl;obtain⟨a0,h0,_⟩:=q1.own c hu0;obtain⟨⟨k,ρ2⟩,e2,f⟩:=f.of;refine⟨.ref a0,h0,Z,A,ρ1,q1,?_⟩;rw[e2];intro v2 H2 q2 x2 s2 pD;dsimp only at f;cases k with
  |int kk=>
   dsimp only at f;split at f
   ·rename_i us hu;split at f
    ·rename_i j hj;obtain⟨a0',k1,k2,_,_,k5⟩:=q2.own c hu;rw[h0] at k1;cases k1;obtain⟨xs,t1,t2,t3⟩:=k5;refine⟨a0,xs,kk,j,rfl,pD.pk.int,t1,by rw[←t3.length];exact hj,?_⟩;have em:∀b o,b≠a0->H2 b=some o->cH H2 a0 (.lst (xs.set j v)) b=some o:=λb o nb z=>by rw[a_ nb];exact z
     have ex:fZ A H2 (cH H2 a0 (.lst (xs.set j v))):=λb o nb z=>em b o (λy=>nb (y▸k2)) z;refine f A σ _ (q2.put c hu h0 em ⟨xs.set j v,bj,by rw[aaJ];exact t2,?_⟩);exact (t3.re q2.mu ex λb z=>.inl z).set j (((vm.rp hn).re q1.mu x2 λb z=>.inl z).re q2.mu ex λb z=>.inl z)
    ·exact f.elim
   ·exact f.elim
  |_=>exact f.elim
 ·exact f.elim⟩
def Vj (i:Nat)(p:U->U->R U)(g:Ev->R (U×Ev)):Ev->SR:=λρ=>match ρ[i]? with
 |some (some u)=>SR.of (g ρ) λy=>SR.of (p u y.1) λz=>.nx (y.2.set i (some z))
 |_=>.stk
end
end L2
namespace L2
def GQ:R2:=λx y H Q=>∃l b xs zs,x=.ref l/\y=.ref b/\H l=some (.lst xs)/\H b=some (.lst zs)/\xs.length+zs.length<=ZL/\∀p,H p=none->Q (.ref p) (cH H p (.lst (xs++zs)))
theorem KN:lC X (acS .Add) GQ:=by
 intro pins s σ H x y v u Q I rx ry h;obtain⟨l,b,xs,zs,rfl,rfl,hH,hB,hz,q⟩:=h;cases rx;cases ry;obtain⟨z,aD,n,r,hl,e⟩:=I.lstM hH;obtain⟨z2,its2,n2,r2,Oa,e2⟩:=I.lstM hB;refine PySem.P.add_list e e2 ?_ (by rw[ZZ,ZZ];lia);have ea:aD.toArray++its2.toArray=(aD++its2).toArray:=by simp
 rw[ea];exact⟨.ref _,_,I.lnew (t':=s.toks) (r.append r2) (by rw[Z3];lia),rfl,q _ I.fresh⟩
def jR:U->U->R U:=λu w=>match u,w with
 | .int i,.int j=>.ok (.int (i+j))
 | .tup a,.tup b=>if a.length+b.length<=ZL then .ok (.tup (a++b)) else .stk
 | .lst a,.lst b=>if a.length+b.length<=ZL then .ok (.lst (a++b)) else .stk
 |_,_=>.stk
def O7:U->U->R U:=λu w=>match u,w with
 | .lst a,.lst b=>if a.length+b.length<=ZL then .ok (.lst (a++b)) else .stk
 |_,_=>.stk
def ML:R2:=λx y H Q=>(EH λi j=>.int (i+j)) x y H Q\/GB x y H Q\/GQ x y H Q
theorem fF:lC X (acS .Add) ML:=OC.or (GC.or KN)
theorem KO:ig K GQ .O O7:=λA H x y u w z Q hx hy mu e q=>by
 unfold O7 at e;split at e
 ·split at e
  ·rename_i hl;cases e;unfold Pk at hx hy;obtain⟨a,xs,rfl,h1,l1,r1⟩:=hx;obtain⟨b,ys,rfl,h2,l2,r2⟩:=hy;exact⟨a,b,xs,ys,rfl,rfl,h1,h2,by rw[←r1.length,←r2.length];exact hl,λp hp=>q _ _ (cR hp _) ⟨p,rfl,hp,di mu (r1.append r2) hp (by rw[Z3];exact hl)⟩⟩
  ·cases e
 ·cases e
theorem fG:ig K ML .S jR:=λA H x y u w z Q hx hy mu e q=>by
 unfold jR at e;split at e
 ·cases e;exact .inl ⟨_,_,hx.int,hy.int,q _ H (aR.refl _) (show Rp K H A _ _ from dN)⟩
 ·split at e
  ·rename_i hl;cases e;unfold Pk at hx hy;obtain⟨a,xs,rfl,h1,l1,r1⟩:=hx;obtain⟨b,ys,rfl,h2,l2,r2⟩:=hy;refine .inr (.inl ⟨a,b,xs,ys,rfl,rfl,h1,h2,by rw[←r1.length,←r2.length];exact hl,λr H' sm hr=>q _ H' sm (show Rp K H' A _ _ from ?_)⟩);unfold Rp;exact⟨r,_,rfl,hr,by rw[Z3];exact hl,(r1.append r2).same sm⟩
  ·cases e
 ·refine .inr (.inr (KO A H x y _ _ z Q hx hy mu (show O7 (.lst _) (.lst _)=_ from e) λv H' sm vm=>q v H' sm ?_));obtain⟨a,rfl,na,t⟩:=vm;exact t.rp (λb h=>.inl h) λh=>by have:=mu a h;rw[na] at this;exact this
 ·cases e
def pI (c:Int->Int->Bool)(f:Int->Int->Int):U->U->R U:=λu w=>match u,w with
 | .int i,.int j=>if c i j=true then .ok (.int (f i j)) else .stk
 |_,_=>.stk
theorem CZ {C:Int->Int->Prop}{c:Int->Int->Bool}{f:Int->Int->Int}(h:∀i j,c i j=true->C i j):ig K (rI C λi j=>.int (f i j)) .S (pI c f):=λA H x y u w z Q hx hy mu e q=>by
 unfold pI at e;split at e
 ·rename_i i j;split at e
  ·rename_i hc;cases e;exact⟨i,j,hx.int,hy.int,h i j hc,q _ H (aR.refl _) (show Rp K H A _ _ from dN)⟩
  ·cases e
 ·cases e
def rE:U->U->R U:=λu w=>match u,w with
 | .int i,.int j=>.ok (.int (i-j))
 |_,_=>.stk
theorem my:ig K (EH λi j=>.int (i-j)) .S rE:=λA H x y u w z Q hx hy mu e q=>by
 unfold rE at e;split at e
 ·cases e;exact⟨_,_,hx.int,hy.int,q _ H (aR.refl _) (show Rp K H A _ _ from dN)⟩
 ·cases e
def k_ (i j:Int):Bool:=(decide (-(2 ^ 64)<i)&&decide (i<2 ^ 64))||(decide (-(2 ^ 64)<j)&&decide (j<2 ^ 64))
def gH:U->U->R U:=pI k_ (·*·)
theorem eE:ig K (rI Ki λi j=>.int (i*j)) .S gH:=CZ λi j h=>by
 unfold k_ at h;simp only[ack,Z7,decide_eq_true_eq] at h;exact h
def Bt (_ j:Int):Bool:=decide (0<j)&&decide (j<18446744073709551616)
def mX:U->U->R U:=pI Bt (· / ·)
theorem j4:ig K (rI Gy λi j=>.int (i / j)) .S mX:=CZ λi j h=>by
 unfold Bt at h;simp only[Z7,decide_eq_true_eq] at h;exact h
def vB:U->U->R U:=pI (λ_ j=>decide (0<j)) (· % ·)
theorem kG:ig K (rI (λ_ j=>0<j) λi j=>.int (i % j)) .S vB:=CZ λi j h=>of_decide_eq_true h
def KP (i j:Int):Bool:=decide (0<=j)&&decide (j<=1000000)&&decide (i.natAbs<2 ^ 64)
def KQ:U->U->R U:=pI KP λi j=>i ^ j.toNat
theorem C0:ig K (rI Ro λi j=>.int (i ^ j.toNat)) .S KQ:=CZ λi j h=>by
 unfold KP at h;simp only[Z7,decide_eq_true_eq] at h;exact⟨h.1.1,h.1.2,h.2⟩
def KR:U->R U:=λu=>match u with
 | .int i=>.ok (.int (-i))
 |_=>.stk
theorem KS:OY K (rU λi=>.int (-i)) .S KR:=λA H x u z Q hx mu e q=>by
 unfold KR at e;split at e
 ·cases e;exact⟨_,hx.int,q _ H (aR.refl _) (show Rp K H A _ _ from dN)⟩
 ·cases e
def pC (f:Int->Int->Bool):U->U->R U:=λu w=>match u,w with
 | .int i,.int j=>.ok (.bl (f i j))
 |_,_=>.stk
theorem GR {f:Int->Int->Bool}:ig K (EH λi j=>.bl (f i j)) .S (pC f):=λA H x y u w z Q hx hy mu e q=>by
 unfold pC at e;split at e
 ·cases e;exact⟨_,_,hx.int,hy.int,q _ H (aR.refl _) (show Rp K H A _ _ from j2)⟩
 ·cases e
def Uw:U->U->R U:=pC λi j=>decide (i<j)
def XR:U->U->R U:=pC λi j=>decide (i<=j)
def Ux:U->U->R U:=pC λi j=>decide (j<i)
def Vk:U->U->R U:=pC λi j=>decide (j<=i)
mutual
def kH:U->Option D
 | .non=>some .non
 | .bl b=>some (.bl b)
 | .int i=>some (.int i)
 | .str x=>some (.str x)
 | .tup us=>(ja us).map .tup
 | .lst us=>(ja us).map .lst
 | .dct _ _=>none
 | .scr _=>none
 | .obj _ _=>none
def ja:List U->Option (List D)
 | []=>some []
 |u::us=>(kH u).bind λd=>(ja us).map λds=>d::ds
end
mutual
theorem Bu {H:Hp}{A:Z_->Prop}:∀{u:U} {v:V} {d:D},Rp K H A u v->kH u=some d->eB K H d v
 | .non,v,d,h,e=>by unfold kH at e;cases e;unfold Rp at h;unfold eB;exact h
 | .bl b,v,d,h,e=>by unfold kH at e;cases e;unfold Rp at h;unfold eB;exact h
 | .int b,v,d,h,e=>by unfold kH at e;cases e;unfold Rp at h;unfold eB;exact h
 | .str b,v,d,h,e=>by unfold kH at e;cases e;unfold Rp at h;unfold eB;exact h
 | .tup us,v,d,h,e=>by
  unfold kH at e;cases e2:ja us with
  |none=>rw[e2] at e;cases e
  |some ds=>
   rw[e2] at e;cases e;unfold Rp at h;unfold eB;obtain⟨a,xs,r,q,l,z⟩:=h;exact⟨a,xs,r,iC.of q,mz z e2⟩
 | .lst us,v,d,h,e=>by
  unfold kH at e;cases e2:ja us with
  |none=>rw[e2] at e;cases e
  |some ds=>
   rw[e2] at e;cases e;unfold Rp at h;unfold eB;obtain⟨a,xs,r,_,q,l,z⟩:=h;exact⟨a,xs,r,fu.of q,mz z e2⟩
 | .dct _ _,v,d,h,e=>by unfold kH at e;cases e
 | .scr _,v,d,h,e=>by unfold kH at e;cases e
 | .obj _ _,v,d,h,e=>by unfold kH at e;cases e
theorem mz {H:Hp}{A:Z_->Prop}:∀{us:List U} {vs:List V} {ds:List D},aH K H A us vs->ja us=some ds->eX K H ds vs
 | [],vs,ds,h,e=>by unfold ja at e;cases e;unfold aH at h;unfold eX;exact h
 |u::us,vs,ds,h,e=>by
  unfold ja at e;cases e1:kH u with
  |none=>rw[e1] at e;cases e
  |some d=>
   cases e2:ja us with
   |none=>rw[e1,e2] at e;cases e
   |some ds'=>
    rw[e1,e2] at e;cases e;unfold aH at h;unfold eX;obtain⟨x,r,q,p,z⟩:=h;exact⟨x,r,q,Bu p e1,mz z e2⟩
end
theorem xv {d:D}(h:Pk K H A u v)(e:kH u=some d):eB K H d v:=by
 cases u with
 |lst us=>
  unfold kH at e;cases e2:ja us with
  |none=>rw[e2] at e;cases e
  |some ds=>
   rw[e2] at e;cases e;unfold Pk at h;unfold eB;obtain⟨a,xs,r,q,l,z⟩:=h;exact⟨a,xs,r,fu.of q,mz z e2⟩
 |dct=>unfold kH at e;cases e
 |scr=>unfold kH at e;cases e
 |tup us=>exact Bu (A:=A) (by unfold Pk at h;unfold Rp;exact h) e
 |_=>exact Bu (A:=A) (by unfold Pk at h;unfold Rp;exact h) e
def zo (u w:U):R Bool:=match kH u,kH w with
 |some d,some d'=>if eY d<=30 then .ok (jA d d') else .stk
 |_,_=>.stk
def RX (f:Bool->Bool):U->U->R U:=λu w=>(zo u w).bind λb=>.ok (.bl (f b))
theorem O8 {f:Bool->Bool}:ig K (RL K f) .S (RX f):=λA H x y u w z Q hx hy mu e q=>by
 unfold RX zo at e;obtain⟨b,e1,e2⟩:=R.bind_ok e;split at e1
 ·rename_i d d' h1 h2;split at e1
  ·rename_i hd;cases e1;cases e2;exact⟨d,d',xv hx h1,xv hy h2,hd,q _ H (aR.refl _) (show Rp K H A _ _ from j2)⟩
  ·cases e1
 ·cases e1
def tT:U->Bool
 | .non=>true
 |_=>false
theorem zp (h:Pk K H A u v):decide (v=.non)=tT u:=by
 cases u<;>unfold Pk at h
 case non=>subst h;rfl
 case tup=>obtain⟨a,xs,rfl,_⟩:=h;rfl
 case lst=>obtain⟨a,xs,rfl,_⟩:=h;rfl
 case dct=>obtain⟨a,xs,rfl,_⟩:=h;rfl
 case scr=>obtain⟨a,xs,rfl,_⟩:=h;rfl
 case obj=>obtain⟨a,C,dx,xs,rfl,_⟩:=h;rfl
 all_goals (subst h;rfl)
def j5 (f:Bool->Bool):U->U->R U:=λu w=>match w with
 | .non=>.ok (.bl (f (tT u)))
 |_=>.stk
theorem oG:ig K (λx y H Q=>y=.non/\Q (.bl (decide (x=.non))) H) .S (j5 id):=λA H x y u w z Q hx hy mu e q=>by
 unfold j5 at e;split at e
 ·cases e;refine⟨by unfold Pk at hy;exact hy,q _ H (aR.refl _) ?_⟩;rw[zp hx];exact (show Rp K H A _ _ from j2)
 ·cases e
theorem lH:ig K (λx y H Q=>y=.non/\Q (.bl (!decide (x=.non))) H) .S (j5 not):=λA H x y u w z Q hx hy mu e q=>by
 unfold j5 at e;split at e
 ·cases e;refine⟨by unfold Pk at hy;exact hy,q _ H (aR.refl _) ?_⟩;rw[zp hx];exact (show Rp K H A _ _ from j2)
 ·cases e
def Vl (f:Bool->Bool):U->U->R U:=λu w=>match u,w with
 | .bl a,.bl b=>.ok (.bl (f (decide (a=b))))
 |_,_=>.stk
theorem Bv {i:Int}{z:U}(r:aH K H A us xs)(e:pJ us i=some z):∃v,pJ xs i=some v/\Rp K H A z v:=by
 unfold pJ at e ⊢;rw[←r.length];cases h:Bf us.length i with
 |none=>rw[h] at e;cases e
 |some j=>
  rw[h] at e;obtain⟨v,h1,h2⟩:=r.get (show us[j]? = some z from e);exact⟨v,h1,h2⟩
def cC:U->U->R U:=λu w=>match u,w with
 | .lst us,.int i=>match pJ us i with
  |some z=>.ok z
  |none=>.stk
 | .tup us,.int i=>match pJ us i with
  |some z=>.ok z
  |none=>.stk
 | .scr us,.int i=>match pJ us i with
  |some z=>.ok z
  |none=>.stk
 | .str x,.int i=>match pJ x.cps.toList i with
  |some c=>if x.length<=ZL then .ok (.str ⟨#[c]⟩) else .stk
  |none=>.stk
 |_,_=>.stk
theorem aJ:ig K (Wv K) .S cC:=λA H x y u w z Q hx hy mu e q=>by
 unfold cC at e;split at e
 ·split at e
  ·rename_i z' hz;cases e;unfold Pk at hx;obtain⟨a,xs,rfl,h1,l1,r1⟩:=hx;obtain⟨v,h2,h3⟩:=Bv r1 hz;exact .inl ⟨a,xs,_,v,rfl,hy.int,fu.of h1,h2,q _ H (aR.refl _) h3⟩
  ·cases e
 ·split at e
  ·rename_i z' hz;cases e;unfold Pk at hx;obtain⟨a,xs,rfl,h1,l1,r1⟩:=hx;obtain⟨v,h2,h3⟩:=Bv r1 hz;exact .inr (.inl ⟨a,xs,_,v,rfl,hy.int,iC.of h1,h2,q _ H (aR.refl _) h3⟩)
  ·cases e
 ·split at e
  ·rename_i z' hz;cases e;unfold Pk at hx;obtain⟨a,xs,rfl,h1,l1,r1⟩:=hx;obtain⟨v,h2,h3⟩:=Bv r1 hz;exact .inl ⟨a,xs,_,v,rfl,hy.int,h1.sq,h2,q _ H (aR.refl _) h3⟩
  ·cases e
 ·split at e
  ·rename_i z' hz;split at e
   ·rename_i hl;cases e;exact .inr (.inr ⟨_,_,z',hx.str,hy.int,hl,hz,q _ H (aR.refl _) (show Rp K H A _ _ from OW)⟩)
   ·cases e
  ·cases e
 ·cases e
def EZ {α:Type}(xs:List α)(lo hi:Option Int):List α:=(xs.drop (HT.sIx xs.length 0 lo)).take (HT.sIx xs.length xs.length hi-HT.sIx xs.length 0 lo)
def Vm:U->Option Int->Option Int->R U:=λu lo hi=>match u with
 | .lst us=>.ok (.lst (EZ us lo hi))
 | .scr us=>.ok (.lst (EZ us lo hi))
 | .tup us=>.ok (.tup (EZ us lo hi))
 |_=>.stk
end L2
namespace L2
section
theorem Bm.one (h:Bm K H A [u] vs):∃v,vs=[v]/\Pk K H A u v:=by
 unfold Bm at h;obtain⟨x,r,rfl,p,q⟩:=h;unfold Bm at q;subst q;exact⟨x,rfl,p⟩
theorem Bm.two {w:U}(h:Bm K H A [u,w] vs):∃v v',vs=[v,v']/\Pk K H A u v/\Pk K H A w v':=by
 unfold Bm at h;obtain⟨x,r,rfl,p,q⟩:=h;obtain⟨v,rfl,q'⟩:=Bm.one q;exact⟨x,v,rfl,p,q'⟩
def gf:List U->R U:=λus=>match us with
 | [.lst xs]=>.ok (.int xs.length)
 | [.tup xs]=>.ok (.int xs.length)
 | [.scr xs]=>.ok (.int xs.length)
 | [.str x]=>if x.length<=ZL then .ok (.int x.length) else .stk
 |_=>.stk
theorem eZ:mR K (λxs H Q=>∃x n,xs=[x]/\Ru K x H n/\Q (.int n) H) .S gf:=λA H vs us z Q h mu e q=>by
 unfold gf at e;split at e
 ·rename_i xs;cases e;obtain⟨v,rfl,p⟩:=h.one;unfold Pk at p;obtain⟨a,ys,rfl,h1,l1,r1⟩:=p;exact⟨_,xs.length,rfl,.inl ⟨ys,fu.of h1,r1.length⟩,q _ H (aR.refl _) (show Rp K H A _ _ from dN)⟩
 ·rename_i xs;cases e;obtain⟨v,rfl,p⟩:=h.one;unfold Pk at p;obtain⟨a,ys,rfl,h1,l1,r1⟩:=p;exact⟨_,xs.length,rfl,.inr ⟨ys,iC.of h1,r1.length⟩,q _ H (aR.refl _) (show Rp K H A _ _ from dN)⟩
 ·rename_i xs;cases e;obtain⟨v,rfl,p⟩:=h.one;unfold Pk at p;obtain⟨a,ys,rfl,h1,l1,r1⟩:=p;exact⟨_,xs.length,rfl,.inl ⟨ys,h1.sq,r1.length⟩,q _ H (aR.refl _) (show Rp K H A _ _ from dN)⟩
 ·rename_i x;split at e
  ·rename_i hl;cases e;obtain⟨v,rfl,p⟩:=h.one;have:=p.str;subst this;exact⟨_,x.length,rfl,⟨hl,rfl⟩,q _ H (aR.refl _) (show Rp K H A _ _ from dN)⟩
  ·cases e
 ·cases e
def MM:List U->R U:=λus=>match us with
 | [.lst xs]=>.ok (.lst xs)
 | [.tup xs]=>.ok (.lst xs)
 |_=>.stk
def cW:List U->R U:=λus=>match us with
 | [.lst xs]=>.ok (.tup xs)
 | [.tup xs]=>.ok (.tup xs)
 |_=>.stk
theorem cD:mR K (λxs H Q=>∃p ys,xs=[.ref p]/\((fu K H p ys/\∀l,H l=none->Q (.ref l) (cH H l (.tup ys)))\/(iC K H p ys/\Q (.ref p) H))) .S cW:=λA H vs us z Q h mu e q=>by
 unfold cW at e;split at e
 ·rename_i xs;cases e;obtain⟨v,rfl,p⟩:=h.one;unfold Pk at p;obtain⟨a,ys,rfl,h1,l1,r1⟩:=p;exact⟨a,ys,rfl,.inl ⟨fu.of h1,λl hl=>q _ _ (cR hl _) (pR r1 hl l1)⟩⟩
 ·rename_i xs;cases e;obtain⟨v,rfl,p⟩:=h.one;have p':=p;unfold Pk at p;obtain⟨a,ys,rfl,h1,l1,r1⟩:=p;refine⟨a,ys,rfl,.inr ⟨iC.of h1,q _ H (aR.refl _) (show Rp K H A _ _ from ?_)⟩⟩;unfold Rp;unfold Pk at p';exact p'
 ·cases e
def E1:List U->R U:=λus=>match us with
 | [.int i]=>.ok (.int (if i<0 then -i else i))
 |_=>.stk
theorem C1:mR K (λxs H Q=>∃i,xs=[.int i]/\Q (.int (if i<0 then -i else i)) H) .S E1:=λA H vs us z Q h mu e q=>by
 unfold E1 at e;split at e
 ·cases e;obtain⟨v,rfl,p⟩:=h.one;exact⟨_,by rw[p.int],q _ H (aR.refl _) (show Rp K H A _ _ from dN)⟩
 ·cases e
def C2:List U->R U:=λus=>match us with
 | [.int i,.int j]=>.ok (.int (if j>i then j else i))
 |_=>.stk
theorem GU:mR K (λxs H Q=>∃i j,xs=[.int i,.int j]/\Q (.int (if j>i then j else i)) H) .S C2:=λA H vs us z Q h mu e q=>by
 unfold C2 at e;split at e
 ·cases e;obtain⟨v,w,rfl,p,p'⟩:=h.two;exact⟨_,_,by rw[p.int,p'.int],q _ H (aR.refl _) (show Rp K H A _ _ from dN)⟩
 ·cases e
def C3:List U->R U:=λus=>match us with
 | [.int i,.int j]=>.ok (.int (if j<i then j else i))
 |_=>.stk
theorem GV:mR K (λxs H Q=>∃i j,xs=[.int i,.int j]/\Q (.int (if j<i then j else i)) H) .S C3:=λA H vs us z Q h mu e q=>by
 unfold C3 at e;split at e
 ·cases e;obtain⟨v,w,rfl,p,p'⟩:=h.two;exact⟨_,_,by rw[p.int,p'.int],q _ H (aR.refl _) (show Rp K H A _ _ from dN)⟩
 ·cases e
def j6:List U->Option (List Int)
 | []=>some []
 | .int i::us=>(j6 us).map (i::·)
 |_::_=>none
def lJ:List U->Option (List Bool)
 | []=>some []
 | .bl i::us=>(lJ us).map (i::·)
 |_::_=>none
theorem oH:∀{us:List U} {ns:List Int},j6 us=some ns->us=ns.map .int
 | [],ns,h=>by unfold j6 at h;cases h;rfl
 |u::us,ns,h=>by
  cases u<;>unfold j6 at h<;>try cases h
  rename_i i;cases e:j6 us with
  |none=>rw[e] at h;cases h
  |some ms=>rw[e] at h;cases h;rw[oH e];rfl
theorem zq:∀{us:List U} {ns:List Bool},lJ us=some ns->us=ns.map .bl
 | [],ns,h=>by unfold lJ at h;cases h;rfl
 |u::us,ns,h=>by
  cases u<;>unfold lJ at h<;>try cases h
  rename_i i;cases e:lJ us with
  |none=>rw[e] at h;cases h
  |some ms=>rw[e] at h;cases h;rw[zq e];rfl
theorem E2 (ns:List Bool):lJ (ns.map .bl)=some ns:=by
 induction ns with
 |nil=>rfl
 |cons n ns ih=>rw[ZI];unfold lJ;rw[ih];rfl
theorem aH.toI {H:Hp}{A:Z_->Prop}:∀{ns:List Int} {vs:List V},aH K H A (ns.map .int) vs->vs=ns.map V.int
 | [],vs,h=>by rw[aaI] at h;unfold aH at h;exact h
 |n::ns,vs,h=>by
  rw[ZI] at h;unfold aH at h;obtain⟨x,r,rfl,p,q⟩:=h;unfold Rp at p;rw[p,aH.toI q];rfl
theorem aH.toB {H:Hp}{A:Z_->Prop}:∀{ns:List Bool} {vs:List V},aH K H A (ns.map .bl) vs->vs=ns.map V.bl
 | [],vs,h=>by rw[aaI] at h;unfold aH at h;exact h
 |n::ns,vs,h=>by
  rw[ZI] at h;unfold aH at h;obtain⟨x,r,rfl,p,q⟩:=h;unfold Rp at p;rw[p,aH.toB q];rfl
theorem oI {H:Hp}{A:Z_->Prop}:∀(ns:List Int),aH K H A (ns.map .int) (ns.map V.int)
 | []=>aH.nil
 |n::ns=>aH.cons dN (oI ns)
def E3:List U->R U:=λus=>match us with
 | [.lst xs]=>match lJ xs with
  |some bs=>.ok (.bl (bs.all id))
  |none=>.stk
 |_=>.stk
theorem KW:mR K (λxs H Q=>∃(p:Z_) (bs:List Bool),xs=[.ref p]/\fu K H p (bs.map V.bl)/\Q (.bl (bs.all id)) H) .S E3:=λA H vs us z Q h mu e q=>by
 unfold E3 at e;split at e
 ·rename_i xs;split at e
  ·rename_i bs hb;cases e;obtain⟨v,rfl,p⟩:=h.one;unfold Pk at p;obtain⟨a,ys,rfl,h1,l1,r1⟩:=p;rw[zq hb] at r1;rw[r1.toB] at h1;exact⟨a,bs,rfl,fu.of h1,q _ H (aR.refl _) (show Rp K H A _ _ from j2)⟩
  ·cases e
 ·cases e
def E4 (x:Int):List Int->List Int
 | []=>[x]
 |y::r=>if y<x then y::E4 x r else x::y::r
def wg (ns:List Int):List Int:=ns.foldr E4 []
theorem pT (x:Int):∀l,(E4 x l).Perm (x::l)
 | []=>.refl _
 |y::r=>by
  unfold E4;split
  ·exact ((pT x r).cons y).trans (.swap x y r)
  ·exact .refl _
theorem nE:∀ns:List Int,(wg ns).Perm ns
 | []=>.refl _
 |x::l=>(pT x _).trans ((nE l).cons x)
theorem C4 (x:Int):∀{l:List Int},l.Pairwise (·<=·)->(E4 x l).Pairwise (·<=·)
 | [],_=>aaS _ _
 |y::r,h=>by
  obtain⟨h1,h2⟩:=abx.mp h;unfold E4;split
  ·refine abx.mpr ⟨λz hz=>?_,C4 x h2⟩;rcases ZX.mp ((pT x r).mem_iff.mp hz) with rfl|hz
   ·lia
   ·exact h1 z hz
  ·refine abx.mpr ⟨λz hz=>?_,h⟩;rcases ZX.mp hz with rfl|hz
   ·lia
   ·have:=h1 z hz;lia
theorem zt:∀ns:List Int,(wg ns).Pairwise (·<=·)
 | []=>List.Pairwise.nil
 |x::l=>C4 x (zt l)
def Bw:List U->R U:=λus=>match us with
 | [.lst xs]=>match j6 xs with
  |some ns=>if ns.length<64 then .ok (.lst ((wg ns).map .int)) else .stk
  |none=>.stk
 | [.tup xs]=>match j6 xs with
  |some ns=>if ns.length<64 then .ok (.lst ((wg ns).map .int)) else .stk
  |none=>.stk
 |_=>.stk
theorem E5:mR K (λxs H Q=>∃(p:Z_) (ns:List Int),xs=[.ref p]/\(fu K H p (ns.map V.int)\/iC K H p (ns.map V.int))/\ns.length<64/\
  ∀(l:Z_) (xh:List Int),H l=none->xh.Perm ns->xh.Pairwise (·<=·)->Q (.ref l) (cH H l (.lst (xh.map V.int)))) .O Bw:=λA H vs us z Q h mu e q=>by
 have fin:∀(ns:List Int),ns.length<64->z=.lst ((wg ns).map .int)->∀(l:Z_) (xh:List Int),H l=none->xh.Perm ns->xh.Pairwise (·<=·)->Q (.ref l) (cH H l (.lst (xh.map V.int))):=λns hl hz l xh hn hp hw=>by
  have e:xh=wg ns:=PySem.W.ksm_same (hp.trans (nE ns).symm) hw (zt ns);subst e hz;refine q _ _ (cR hn _) ⟨l,rfl,hn,di mu (oI _) hn ?_⟩;have:ZL=16777216:=rfl;rw[ZF,(nE ns).length_eq];lia
 unfold Bw at e;split at e
 ·rename_i xs;split at e
  ·rename_i ns hb;split at e
   ·rename_i hl;cases e;obtain⟨v,rfl,p⟩:=h.one;unfold Pk at p;obtain⟨a,ys,rfl,h1,l1,r1⟩:=p;rw[oH hb] at r1;rw[r1.toI] at h1;exact⟨a,ns,rfl,.inl (fu.of h1),hl,fin ns hl rfl⟩
   ·cases e
  ·cases e
 ·rename_i xs;split at e
  ·rename_i ns hb;split at e
   ·rename_i hl;cases e;obtain⟨v,rfl,p⟩:=h.one;unfold Pk at p;obtain⟨a,ys,rfl,h1,l1,r1⟩:=p;rw[oH hb] at r1;rw[r1.toI] at h1;exact⟨a,ns,rfl,.inr (iC.of h1),hl,fin ns hl rfl⟩
   ·cases e
  ·cases e
 ·cases e
def XS (ks:List U):String:=match ks with
 | .tup _::_=>"script"
 |_=>"dict"
def Uy:U->String
 | .non=>"NoneType"
 | .bl _=>"bool"
 | .int _=>"int"
 | .str _=>"str"
 | .tup _=>"tuple"
 | .lst _=>"list"
 | .dct ks _=>XS ks
 | .scr _=>"script"
 | .obj _ _=>"script"
variable {e:abH}{pos p1 p2:Pos}{b1:Bool}{m1:Md}{g1:Ev->R (U×Ev)}
def RY (T:String)(g:Ev->R (U×Ev)):Ev->R (U×Ev):=λρ=>(g ρ).bind λx=>if Uy x.1="script" then .stk else .ok (.bl (jF (Uy x.1) T),x.2)
def zu (i j:Int):Bool:=decide (-1000000<=i)&&decide (i<=1000000)&&decide (-1000000<=j)&&decide (j<=1000000)
def zv (g:Ev->R (List U×Ev)):Ev->R (U×Ev):=λρ=>(g ρ).bind λx=>match x.1 with
 | [.int j]=>if zu 0 j=true then .ok (.lst (aY 0 (j-0).toNat),x.2) else .stk
 |_=>.stk
def GW (g:Ev->R (List U×Ev)):Ev->R (U×Ev):=λρ=>(g ρ).bind λx=>match x.1 with
 | [.int j]=>if zu 0 j=true then .ok (.tup (aY 0 (j-0).toNat),x.2) else .stk
 |_=>.stk
theorem wj (lo:Int)(n:Nat):aH K H A (aY lo n) ((ZU n).map λi=>V.int (lo+(i:Nat))):=by
 unfold aY;have e1:(ZU n).map (λi=>U.int (lo+(i:Nat)))=((ZU n).map λi=>lo+(i:Nat)).map U.int:=by rw[ZY];rfl
 have e2:(ZU n).map (λi=>V.int (lo+(i:Nat)))=((ZU n).map λi=>lo+(i:Nat)).map V.int:=by rw[ZY];rfl
 rw[e1,e2];exact oI _
theorem fK (lo:Int)(n:Nat):(aY lo n).length=n:=by unfold aY;rw[ZF,aaa]
variable {ga:Ev->R (List U×Ev)}{a:abH}{p3 p4:Pos}
theorem xw (hc:X.calm=true)(ha:DA X G [a] b1 false ga)(zl:X.mg "list"=none)(zr:X.mg "range"=none)(hg:Gl X "list":=by rfl)(Ms:Gl X "range":=by rfl)
  (hs:Z8 [.Call (.Name "range" p3) [a] [] p4] X.env=(false,acD (.Call (.Name "range" p3) [a] [] p4) X.env)::Z8 [] X.env:=by rfl) (yM:Z8 [a] X.env=(false,acD a X.env)::Z8 [] X.env:=by rfl)
  (sS:(abW pos (Z8 [] X.env)).any (·.1)=false:=by rfl) (Cz:(abW p4 (Z8 [] X.env)).any (·.1)=false:=by rfl):DE X G (.Call (.Name "list" p1) [.Call (.Name "range" p3) [a] [] p4] [] pos) b1 .O (zv ga):=⟨(gJ (vu hc) hg zl CT (mm (gJ qx Ms zr za ha.un (by decide) (by decide) yM Cz) pM hs) (by decide) (by decide) hs sS).to λσ H Q h=>by
 obtain⟨Z,A,ρ,q,f⟩:=h;obtain⟨⟨us,ρ1⟩,e1,f⟩:=f.bind;refine⟨Z,A,ρ,q,?_⟩;rw[e1];intro vs H1 q1 x1 s1 vm;dsimp only at f;split at f
 ·rename_i j;split at f
  ·rename_i hj;have r:=vm.rps;unfold aH at r;obtain⟨v,vr,rfl,r1,r2⟩:=r;unfold aH at r2;subst r2;unfold Rp at r1;subst r1;unfold zu at hj;simp only[Z7,decide_eq_true_eq] at hj;refine⟨j,rfl,λp hp=>⟨p,0,j,rfl,bj,by lia,by lia,λl hl=>?_⟩⟩;have sp:=cR hp (.rng 0 j);have sl:=cR hl (.lst ((ZU (j-0).toNat).map λi=>V.int (0+(i:Nat))));exact f _ _ ((q1.same sp).same sl) (x1.trans (fZ.same (sp.trans sl))) (vA s1 (sp.trans sl)) (FV.e (q1.same sp) sl ⟨l,rfl,hl,di (q1.same sp).mu (wj 0 _) hl (by rw[fK];have:ZL=16777216:=rfl;lia)⟩)
  ·exact f.elim
 ·exact f.elim⟩
theorem KY (hc:X.calm=true)(ha:DA X G [a] b1 false ga)(zl:X.mg "tuple"=none)(zr:X.mg "range"=none)(hg:Gl X "tuple":=by rfl)(Ms:Gl X "range":=by rfl)
  (hs:Z8 [.Call (.Name "range" p3) [a] [] p4] X.env=(false,acD (.Call (.Name "range" p3) [a] [] p4) X.env)::Z8 [] X.env:=by rfl) (yM:Z8 [a] X.env=(false,acD a X.env)::Z8 [] X.env:=by rfl)
  (sS:(abW pos (Z8 [] X.env)).any (·.1)=false:=by rfl) (Cz:(abW p4 (Z8 [] X.env)).any (·.1)=false:=by rfl):DE X G (.Call (.Name "tuple" p1) [.Call (.Name "range" p3) [a] [] p4] [] pos) b1 .S (GW ga):=⟨(gJ (tq hc) hg zl c9 (mm (gJ qx Ms zr za ha.un (by decide) (by decide) yM Cz) pM hs) (by decide) (by decide) hs sS).to λσ H Q h=>by
 obtain⟨Z,A,ρ,q,f⟩:=h;obtain⟨⟨us,ρ1⟩,e1,f⟩:=f.bind;refine⟨Z,A,ρ,q,?_⟩;rw[e1];intro vs H1 q1 x1 s1 vm;dsimp only at f;split at f
 ·rename_i j;split at f
  ·rename_i hj;have r:=vm.rps;unfold aH at r;obtain⟨v,vr,rfl,r1,r2⟩:=r;unfold aH at r2;subst r2;unfold Rp at r1;subst r1;unfold zu at hj;simp only[Z7,decide_eq_true_eq] at hj;refine⟨j,rfl,λp hp=>⟨p,0,j,rfl,bj,by lia,by lia,λl hl=>?_⟩⟩;have sp:=cR hp (.rng 0 j);have sl:=cR hl (.tup ((ZU (j-0).toNat).map λi=>V.int (0+(i:Nat))));exact f _ _ ((q1.same sp).same sl) (x1.trans (fZ.same (sp.trans sl))) (vA s1 (sp.trans sl)) (AW.ofS (pR (wj 0 _) hl (by rw[fK];have:ZL=16777216:=rfl;lia)))
  ·exact f.elim
 ·exact f.elim⟩
def iS:U->List U->R (U×U):=λu us=>match u,us with
 | .lst xs,[y]=>if xs.length<ZL then .ok (.non,.lst (xs++[y])) else .stk
 |_,_=>.stk
theorem kI {a:Z_}(o:HO):∀b u,b≠a->H b=some u->cH H a o b=some u:=λb u nb z=>by rw[a_ nb];exact z
theorem sG {a:Z_}(mu:∀a,A a->Mu (H a))(ha:A a)(r:aH K H A us xs)(l:us.length<=ZL):k9 K (cH H a (.lst xs)) A (.lst us) a:=
 ⟨xs,bj,l,r.re mu (λb o nb z=>kI _ b o (λy=>nb (y▸ha)) z) λb z=>.inl z⟩
theorem jb:GI K "list" CP iS:=λA H a u vs us z w Q t ha r mu e q=>by
 unfold iS at e;split at e
 ·rename_i xs y;split at e
  ·rename_i hl;cases e;obtain⟨ys,h1,l1,r1⟩:=t;unfold aH at r;obtain⟨v,vr,rfl,p,r2⟩:=r;unfold aH at r2;subst r2;exact⟨a,ys,v,rfl,rfl,h1,by rw[←r1.length];exact hl,q _ _ (kI _) (sG mu ha (r1.append (aH.cons p aH.nil)) (by rw[Z3];exact hl)) tK⟩
  ·cases e
 ·cases e
def zx:V->List V->Hp->VK->Prop:=λx vs H Q=>∃l b xs zs,x=.ref l/\vs=[.ref b]/\H l=some (.lst xs)/\H b=some (.lst zs)/\xs.length+zs.length<=ZL/\Q .non (cH H l (.lst (xs++zs)))
theorem Bx:Kn X "list.extend" zx:=by
 intro pins s σ H x vs v us Q I rx rv h;obtain⟨l,b,xs,zs,rfl,rfl,hH,hB,hz,q⟩:=h;cases rx;obtain⟨u,rfl,ru⟩:=rv.one;cases ru;obtain⟨z,aD,n,r,hl,e⟩:=I.lstM hH;obtain⟨z2,its2,n2,r2,Oa,e2⟩:=I.lstM hB;have hsz:aD.toArray.size+its2.toArray.size<=ZL:=by rw[ZZ,ZZ];lia
 have JQ:¬(!aD.toArray.isEmpty&&acj (aD.toArray.size+its2.toArray.size))=true:=by
  rw[s_ hsz,ac5];exact ZM
 refine aem F.slot_list_extend ⟨_,e,rfl⟩ F.entry_list_extend (F.args_list_extend_2 _ _)
  (PySem.AutoSeq1.list_extend_list_list_0 l aD.toArray n b its2.toArray n2 JQ (by rw[ZZ];lia) (by lia)) ⟨e,e2,?_⟩
 refine⟨.non,_,I.lset (its':=aD++its2) hH e (by simp) (r.append r2) ?_,rfl,q⟩;rw[Z3];lia
def MN:V->List V->Hp->VK->Prop:=λx vs H Q=>zx x vs H Q\/zc x vs H Q
theorem KZ:Kn X "list.extend" MN:=Bx.or Bk
def sH:U->List U->R (U×U):=λu us=>match u,us with
 | .lst xs,[.lst ys]=>if xs.length+ys.length<=ZL then .ok (.non,.lst (xs++ys)) else .stk
 | .lst xs,[.tup ys]=>if xs.length+ys.length<=ZL then .ok (.non,.lst (xs++ys)) else .stk
 |_,_=>.stk
theorem By:GI K "list" MN sH:=λA H a u vs us z w Q t ha r mu e q=>by
 unfold sH at e;split at e
 ·rename_i xs ys;split at e
  ·rename_i hl;cases e;obtain⟨zs,h1,l1,r1⟩:=t;unfold aH at r;obtain⟨v,vr,rfl,p,r2⟩:=r;unfold aH at r2;subst r2;unfold Rp at p;obtain⟨b,ws,rfl,nb,h2,l2,r3⟩:=p;exact .inl ⟨a,b,zs,ws,rfl,rfl,h1,h2,by rw[←r1.length,←r3.length];exact hl,q _ _ (kI _) (sG mu ha (r1.append r3) (by rw[Z3];exact hl)) tK⟩
  ·cases e
 ·rename_i xs ys;split at e
  ·rename_i hl;cases e;obtain⟨zs,h1,l1,r1⟩:=t;unfold aH at r;obtain⟨v,vr,rfl,p,r2⟩:=r;unfold aH at r2;subst r2;unfold Rp at p;obtain⟨b,ws,rfl,h2,l2,r3⟩:=p;exact .inr ⟨a,b,zs,ws,rfl,rfl,h1,h2,by rw[←r1.length,←r3.length];exact hl,q _ _ (kI _) (sG mu ha (r1.append r3) (by rw[Z3];exact hl)) tK⟩
  ·cases e
 ·cases e
def pV:U->List U->R (U×U):=λu us=>match u,us with
 | .lst xs,[.int i]=>if -9223372036854775808<=i/\i<9223372036854775808 then (match aeZ i xs.length with
  |some k=>match xs[k]? with
   |some y=>.ok (y,.lst (xs.eraseIdx k))
   |none=>.stk
  |none=>.stk) else .stk
 |_,_=>.stk
theorem aH.erase {H:Hp}{A:Z_->Prop}:∀{us:List U} {vs:List V} (n:Nat),aH K H A us vs->aH K H A (us.eraseIdx n) (vs.eraseIdx n)
 | [],vs,n,h=>by unfold aH at h;subst h;exact aH.nil
 |u::us,vs,0,h=>by
  unfold aH at h;obtain⟨x,r,rfl,p,q⟩:=h;exact q
 |u::us,vs,n+1,h=>by
  unfold aH at h;obtain⟨x,r,rfl,p,q⟩:=h;exact aH.cons p (aH.erase n q)
theorem E6:GI K "list" Gg pV:=λA H a u vs us z w Q t ha r mu e q=>by
 unfold pV at e;split at e
 ·rename_i xs i;split at e
  ·rename_i hi;split at e
   ·rename_i k hk;split at e
    ·rename_i y hy;cases e;obtain⟨zs,h1,l1,r1⟩:=t;unfold aH at r;obtain⟨v,vr,rfl,p,r2⟩:=r;unfold aH at r2;subst r2;unfold Rp at p;subst p;obtain⟨v,h2,h3⟩:=r1.get hy;exact⟨a,zs,i,k,v,rfl,rfl,h1,by have:=hi.1;lia,by have:=hi.2;lia,by rw[←r1.length];exact hk,h2,q _ _ (kI _) (sG mu ha (r1.erase k) (aaP (List.length_eraseIdx_le _ _) l1)) (h3.re mu (λb o nb z=>kI _ b o (λy=>nb (y▸ha)) z) λb z=>.inl z)⟩
    ·cases e
   ·cases e
  ·cases e
 ·cases e
end
end L2
namespace L2
section
variable {m:Md}{pos:Pos}
theorem GX:ig K (EH λi j=>.bl (decide (i<j))) .S Uw:=GR
theorem GY:ig K (EH λi j=>.bl (decide (j<i))) .S Ux:=GR
theorem O9:ig K (EH λi j=>.bl (decide (j<=i))) .S Vk:=GR
theorem sI {TY:List adh}:Bq X G m TY (λ_=>.stk):=⟨λpins s σ H D I h=>by
 obtain⟨Z,A,ρ,q,f⟩:=h;exact f.elim⟩
def O_:Ev->R (U×Ev):=λρ=>.ok (.dct [] [],ρ)
theorem oJ:DE X G (.Dict [] [] pos) false .O O_:=⟨Gn.to λσ H Q h=>by
 obtain⟨Z,A,ρ,q,f⟩:=h;intro a na;have sn:=cR na (.dK []);exact f _ _ (q.same sn) (fZ.same sn) (λ_=>⟨rfl,sn⟩) (FV.e q sn ⟨a,rfl,na,[],.inl ⟨[],bj,rfl,rfl⟩,abc _,aH.nil⟩)⟩
end
end L2
namespace L2
def K0 (H:Hp)(a:Z_)(y:V)(o:Option V):Prop:=Gk H a y o\/∃es k b,fx H a es/\y=.ref b/\vo H k b/\o=gN es k
def Uz (H:Hp)(a:Z_)(y v:V)(C:Hp->Prop):Prop:=(∃H',RG H a y v H'/\C H')\/∃es k b,fx H a es/\y=.ref b/\vo H k b/\es.length<=ZL/\∀ep,C (cH H a (DN a ep (jP es k b v)))
def Pa (H:Hp)(a:Z_):Prop:=Wx H a\/∃es,fx H a es
section
variable {d:V}{u r:ZR}{o:Option V}{A:aaC}
theorem GZ (I:aL X pins σ H s)(g:K0 H a y o):s.TypeIs (.ref a) "dict":=by
 rcases g with g|⟨es,k,b,g,_⟩
 ·exact y8 I g
 ·exact g.typeIs I
theorem RZ (I:aL X pins σ H s)(d:Pa H a):s.TypeIs (.ref a) "dict"/\(∀b,Value.ref a=.ref b->∃ob,s.heap.get? b=some ob/\ob.dict=none):=by
 rcases d with d|⟨es,d⟩
 ·obtain⟨x,y,_⟩:=ON I d;exact⟨x,y⟩
 ·exact⟨d.typeIs I,d.noDict I⟩
theorem E7 (hu:A.units+64<abo)(I:aL X pins σ H s)(g:K0 H a y (some v))(ry:aZ y u)(h:∀w' s',aL X pins σ H s'->aZ v w'->Q w' s') :
  aac (aan X.prog X.w) A (getItem (.ref a) u) Q E s:=by
 rcases g with g|⟨es,k,b,g,rfl,kb,e⟩
 ·exact EN (by lia) I g ry h
 ·cases ry;exact EV hu I g kb e.symm h
theorem K1 (hu:A.units+64<abo)(I:aL X pins σ H s)(g:K0 H a y o)(ry:aZ y u)(h:∀s',aL X pins σ H s'->Q (.bool (!o.isSome)) s') :
  aac (aan X.prog X.w) A (abK .NotIn u (.ref a)) Q E s:=by
 rcases g with g|⟨es,k,b,g,rfl,kb,e⟩
 ·exact Kq (by lia) I g ry h
 ·cases ry;subst e;exact Kv hu I g kb h
theorem Pb (hu:A.units+64<abo)(I:aL X pins σ H s)(g:K0 H a y o)(ry:aZ y u)(rd:aZ d r)(h:∀w' s',aL X pins σ H s'->aZ (o.getD d) w'->Q w' s') :
  aac (aan X.prog X.w) A (call (.builtin "dict.get") [.ref a,u,r]) Q E s:=by
 rcases g with g|⟨es,k,b,g,rfl,kb,e⟩
 ·exact OO (by lia) I g ry rd h
 ·cases ry;subst e;exact OV hu I g kb rd h
theorem E8 {C:Hp->Prop}{Q:Unit->Z5->Prop}(hu:A.units+64<abo)(I:aL X pins σ H s)(g:Uz H a y v C)(ry:aZ y u)(rv:aZ v r)(h:∀H' s',C H'->aL X pins σ H' s'->Q () s') :
  aac (aan X.prog X.w) A (setItem (.ref a) u r) Q E s:=by
 rcases g with⟨H',g,c⟩|⟨es,k,b,g,rfl,kb,hz,e⟩
 ·exact EO (by lia) I g ry rv λs'=>h H' s' c
 ·cases ry;exact EW hu I g kb hz rv λep s'=>h _ s' (e ep)
end
def R0 (td ty:TE):TE:=λσ H Q=>td σ H λx H1=>ty σ H1 λy H2=>∃a v,x=.ref a/\K0 H2 a y (some v)/\Q v H2
def Vn (f:Bool->Bool):R2:=λy x H Q=>∃a o,x=.ref a/\K0 H a y o/\Q (.bl (f o.isSome)) H
def Pc (td ty tx:TE):TE:=λσ H Q=>td σ H λx H1=>∃a,x=.ref a/\Pa H1 a/\ty σ H1 λy H2=>tx σ H2 λz H3=>∃o,K0 H3 a y o/\Q (o.getD z) H3
def R1 (td ty tv:TE):TS:=λD σ H=>tv σ H λv H1=>td σ H1 λx H2=>ty σ H2 λy H3=>∃a,x=.ref a/\Uz H3 a y v λH4=>D.nx σ H4
section
variable {o i e f value:abH}{pos jD eQ cpos:Pos}{td ty tv tx:TE}
theorem C5 (hu:X.A.units+64<abo)(ho:PE X o td)(hi:PE X i ty)(hs:Kr i):PE X (.Subscript o i pos) (R0 td ty):=by
 intro pins s σ H Q I h;refine Ks PySem.F.slot_dict_getitem.lookup hs (fQ (ho pins s σ H _ I h) λu s1 ⟨x,H1,I1,rx,q1⟩=>fQ (hi pins s1 σ H1 _ I1 q1) λiv s2 ⟨y,H2,I2,ry,a,v,ex,g,q2⟩=>?_);subst ex;obtain rfl:u=Value.ref a:=rx;exact⟨GZ I2 g,E7 hu I2 g ry λw' s3 I3 CA=>⟨v,H2,I3,CA,q2⟩⟩
theorem E9 (hu:X.A.units+64<abo):lC X (abK .NotIn) (Vn not):=by
 intro pins s σ H y x v u Q I ry rx h;obtain⟨a,o,rfl,g,q⟩:=h;cases rx;exact K1 hu I g ry λs' I'=>⟨.bl (!o.isSome),H,I',rfl,q⟩
theorem G0 (hu:X.A.units+64<abo)(ho:PE X o td)(he:PE X e ty)(hf:PE X f tx)(m:M2 X o "get" eQ e f cpos):PE X (.Call (.Attribute o "get" eQ) [e,f] [] cpos) (Pc td ty tx):=by
 intro pins s σ H Q I h;refine wpAny_Call_method m.base m.few m.line PySem.F.plainAttrs_dict acI PySem.F.type_dict_get (fQ (ho pins s σ H _ I h) λu s1 ⟨x,H1,I1,rx,a,ex,d,q1⟩=>?_);subst ex;obtain rfl:u=Value.ref a:=rx;obtain⟨t1,t2⟩:=RZ I1 d;refine⟨t1,t2,?_⟩;rw[m.trees];refine adK rfl (Calls.evalArgs_plain (aeE (fQ (he pins s1 σ H1 _ I1 q1) λiv s2 ⟨y,H2,I2,ry,q2⟩=>
  aeE (fQ (hf pins s2 σ H2 _ I2 q2) λfv s3 ⟨z,H3,I3,rz,ov,g,q3⟩=>Calls.spliced_nil ?_))))
 exact Pb hu I3 g ry rz λw' s4 I4 CA=>⟨_,H3,I4,CA,q3⟩
theorem C6 (hu:X.A.units+64<abo)(ho:PE X o td)(hi:PE X i ty)(hv:PE X value tv)(hs:ac3 value (some (.Subscript o i jD)) pos.line X.env=pure false) :
  PS X (.Assign [.Subscript o i jD] value pos) (R1 td ty tv):=by
 intro pins s σ H D I h;refine wpAny_Assign_Subscript (fQ (hv pins s σ H _ I h) λr s1 ⟨v,H1,I1,rv,q1⟩=>fQ (ho pins s1 σ H1 _ I1 q1) λu s2 ⟨x,H2,I2,rx,q2⟩=>fQ (hi pins s2 σ H2 _ I2 q2) λiv s3 ⟨y,H3,I3,ry,a,ex,g⟩=>?_) hs;subst ex;obtain rfl:u=Value.ref a:=rx;exact E8 hu I3 g ry rv λH4 s4 q3 I4=>⟨σ,H4,I4,q3⟩
end
def G2:U->Bool
 | .int _=>true
 | .str _=>true
 |_=>false
mutual
def vC:U->Bool
 | .int _=>true
 | .tup us=>zy us
 |_=>false
def zy:List U->Bool
 | []=>true
 |u::us=>vC u&&zy us
end
def oK:U->Bool
 | .tup us=>zy us&&decide (vz us<=6)
 |_=>false
def G3:U->Bool
 | .tup _=>true
 |_=>false
def nF (ks:List U)(k:U):Bool:=(G2 k&&ks.all G2)||(oK k&&ks.all G3)
def cX:List U->List U->U->Option U
 |k'::ks,u::us,k=>if k'=k then some u else cX ks us k
 |_,_,_=>none
def cx (ks us:List U)(k v:U):List U:=if k∈ks then abe (λk' u=>if k'=k then v else u) ks us else us++[v]
def dv (ks:List U)(k:U):List U:=if k∈ks then ks else ks++[k]
mutual
theorem R3:∀{u:U} {v:V},vC u=true->Rp K H A u v->KH H u v
 | .int i,v,_,h=>by unfold Rp at h;unfold KH;exact h
 | .tup us,v,k,h=>by
  unfold vC at k;unfold Rp at h;unfold KH;obtain⟨a,xs,r,q,l,z⟩:=h;exact⟨a,xs,r,q,l,Bz k z⟩
 | .non,v,k,h=>by unfold vC at k;cases k
 | .bl _,v,k,h=>by unfold vC at k;cases k
 | .str _,v,k,h=>by unfold vC at k;cases k
 | .lst _,v,k,h=>by unfold vC at k;cases k
 | .dct _ _,v,k,h=>by unfold vC at k;cases k
 | .scr _,v,k,h=>by unfold vC at k;cases k
 | .obj _ _,v,k,h=>by unfold vC at k;cases k
theorem Bz:∀{us:List U} {vs:List V},zy us=true->aH K H A us vs->tF H us vs
 | [],vs,_,h=>by unfold aH at h;unfold tF;exact h
 |u::us,vs,k,h=>by
  unfold zy at k;rw[Z7] at k;unfold aH at h;unfold tF;obtain⟨x,r,q,p,z⟩:=h;exact⟨x,r,q,R3 k.1 p,Bz k.2 z⟩
end
theorem qz (k:oK (.tup us)=true)(h:Rp K H A (.tup us) v):∃b,v=.ref b/\vo H us b:=by
 unfold oK at k;rw[Z7] at k;unfold Rp at h;obtain⟨a,xs,r,q,l,z⟩:=h;exact⟨a,r,of_decide_eq_true k.2,xs,q,l,Bz k.1 z⟩
theorem MO (k:G2 u=true)(h:Rp K H A u v):∃q:Key,u=kU q/\v=kV q:=by
 cases u<;>first|(cases k;done)|skip
 ·unfold Rp at h;exact⟨.inl _,rfl,h⟩
 ·unfold Rp at h;exact⟨.inr _,rfl,h⟩
theorem BA {a b:Key}(h:kU a=kU b):a=b:=by
 cases a<;>cases b<;>unfold kU at h<;>first|(cases h;rfl)|cases h
theorem BB {k:Key}:∀{bb:List (Key×V)} {us:List U},aH K H A us (bb.map (·.2))->(∀u,cX (bb.map λp=>kU p.1) us (kU k)=some u->∃v,rC bb k=some v/\Rp K H A u v)/\(cX (bb.map λp=>kU p.1) us (kU k)=none->rC bb k=none)
 | [],us,r=>⟨(λu h=>by unfold cX at h;cases h),λ_=>rfl⟩
 |p::bb,us,r=>by
  cases us with
  |nil=>unfold aH at r;cases r
  |cons u us=>
   unfold aH at r;obtain⟨x,rr,e,h1,h2⟩:=r;cases e;rw[ZI];unfold cX;by_cases c:p.1=k
   ·rw[hZ (by rw[c]),oh c];exact⟨λw h=>by cases h;exact⟨_,rfl,h1⟩,λh=>by cases h⟩
   ·rw[hV (λz=>c (BA z)),oj c];exact BB h2
theorem BC {k:List U}:∀{es:List (List U×Z_×V)} {us:List U},aH K H A us (es.map (·.2.2))->(∀u,cX (es.map λp=>.tup p.1) us (.tup k)=some u->∃v,gN es k=some v/\Rp K H A u v)/\(cX (es.map λp=>.tup p.1) us (.tup k)=none->gN es k=none)
 | [],us,r=>⟨(λu h=>by unfold cX at h;cases h),λ_=>rfl⟩
 |p::es,us,r=>by
  cases us with
  |nil=>unfold aH at r;cases r
  |cons u us=>
   unfold aH at r;obtain⟨x,rr,e,h1,h2⟩:=r;cases e;rw[ZI];unfold cX gN;rw[aaX];by_cases c:p.1=k
   ·rw[hZ (by rw[c]),hG c];exact⟨λw h=>by cases h;exact⟨_,rfl,h1⟩,λh=>by cases h⟩
   ·rw[hV (λz=>c (kF.mp z)),hJ c];exact BC h2
theorem G4 {k:U}(d:xo H a ks xs)(r:aH K H A us xs)(f:nF ks k=true)(hk:Rp K H A k y) :
  ∃o,K0 H a y o/\(∀u,cX ks us k=some u->∃v,o=some v/\Rp K H A u v)/\(cX ks us k=none->o=none):=by
 unfold nF at f;rw[ack,Z7,Z7] at f;rcases d with⟨bb,h,e1,e2⟩|⟨es,n,h,e1,e2⟩
 ·rcases f with⟨f1,f2⟩|⟨f1,f2⟩
  ·obtain⟨q,rfl,rfl⟩:=MO f1 hk;subst e1 e2;exact⟨_,.inl (.inl ⟨bb,q,.inl h,rfl,rfl⟩),(BB r).1,(BB r).2⟩
  ·cases bb with
   |nil=>
    subst e1 e2;cases k<;>first|(cases f1;done)|skip
    rename_i kk;obtain⟨b,rfl,kt⟩:=qz f1 hk;exact⟨none,.inr ⟨[],kk,b,⟨.inr ⟨rfl,h⟩,abi,(λe he=>by cases he)⟩,rfl,kt,rfl⟩,(λu z=>by unfold cX at z;cases z),λ_=>rfl⟩
   |cons p bb=>
    exfalso;subst e1;rw[ZI,acu,Z7] at f2;obtain⟨p1,p2⟩:=p;cases p1<;>cases f2.1
 ·rcases f with⟨f1,f2⟩|⟨f1,f2⟩
  ·exfalso;subst e1;cases es with
   |nil=>exact n rfl
   |cons p es=>rw[ZI,acu,Z7] at f2;cases f2.1
  ·subst e1 e2;cases k<;>first|(cases f1;done)|skip
   rename_i kk;obtain⟨b,rfl,kt⟩:=qz f1 hk;exact⟨_,.inr ⟨es,kk,b,h,rfl,kt,rfl⟩,(BC r).1,(BC r).2⟩
end L2
namespace L2
theorem aH.snoc (h:aH K H A us vs)(p:Rp K H A u v):aH K H A (us++[u]) (vs++[v]):=h.append (aH.cons p aH.nil)
theorem R5 {k:Key}(bb:List (Key×V)):(bb.any λkv=>decide (kv.1=k))=decide (kU k∈bb.map λp=>kU p.1):=by
 rw[aaw,ab7,decide_eq_true_eq,ZO];constructor
 ·rintro⟨p,h1,h2⟩;exact⟨p,h1,by rw[of_decide_eq_true h2]⟩
 ·rintro⟨p,h1,h2⟩;exact⟨p,h1,hG (BA h2)⟩
theorem C7 {k:Key}(bb:List (Key×V))(v:V):og bb k v=if (bb.any λkv=>decide (kv.1=k))=true then bb.map (λkv=>if kv.1=k then (kv.1,v) else kv) else bb++[(k,v)]:=by
 unfold og;rfl
theorem E_ {k:Key}(bb:List (Key×V))(v:V):(og bb k v).map (λp=>kU p.1)=dv (bb.map λp=>kU p.1) (kU k):=by
 rw[C7,R5];unfold dv;by_cases c:kU k∈bb.map λp=>kU p.1
 ·rw[hG c,hZ rfl,hZ c,ZY];refine Z2 λp _=>?_;show kU (if p.1=k then (p.1,v) else p).1=kU p.1;split<;>rfl
 ·rw[hJ c,hV ZM,hV c,aad];rfl
theorem Fb {k:Key}(p:Rp K H A u v){bb:List (Key×V)}(r:aH K H A us (bb.map (·.2))):aH K H A (cx (bb.map λp=>kU p.1) us (kU k) u) ((og bb k v).map (·.2)):=by
 rw[C7,R5];unfold cx;by_cases c:kU k∈bb.map λp=>kU p.1
 ·rw[hG c,hZ rfl,hZ c];clear c
  induction bb generalizing us with
  |nil=>
   rw[aaI] at r;unfold aH at r;cases us with
   |nil=>exact aH.nil
   |cons=>obtain⟨_,_,e,_⟩:=r;cases e
  |cons q bb ih=>
   cases us with
   |nil=>unfold aH at r;cases r
   |cons w us=>
    unfold aH at r;obtain⟨x,rr,e,h1,h2⟩:=r;cases e;rw[ZI,ZI,ZI,aaH];refine aH.cons ?_ (ih h2);by_cases c:q.1=k
    ·rw[hZ (by rw[c]),hZ c];exact p
    ·rw[hV (λz=>c (BA z)),hV c];exact h1
 ·rw[hJ c,hV ZM,hV c,aad];exact r.snoc p
theorem oM {k:List U}:∀(es:List (List U×Z_×V)),(gN es k).isSome=decide (U.tup k∈es.map λp=>U.tup p.1)
 | []=>by simp[gN]
 |e::es=>by
  have ih:=oM (k:=k) es;unfold gN at ih ⊢;rw[aaX,ZI];by_cases c:e.1=k
  ·rw[hG c,hG (by rw[c];exact ZG)];rfl
  ·rw[hJ c];dsimp only;rw[ih,aaw,decide_eq_true_eq,decide_eq_true_eq,ZX];constructor
   ·exact .inr
   ·rintro (z|z)
    ·exact absurd (kF.mp z).symm c
    ·exact z
theorem Fc {k:List U}(es:List (List U×Z_×V))(v:V):(jP es k b v).map (λp=>U.tup p.1)=dv (es.map λp=>.tup p.1) (.tup k):=by
 unfold jP dv;rw[oM];by_cases c:U.tup k∈es.map λp=>U.tup p.1
 ·rw[hG c,hZ rfl,hZ c,ZY];refine Z2 λp _=>?_;show U.tup (if p.1=k then (p.1,p.2.1,v) else p).1=.tup p.1;split<;>rfl
 ·rw[hJ c,hV ZM,hV c,aad];rfl
theorem Fd {k:List U}(p:Rp K H A u v)(r:aH K H A us (es.map (·.2.2))):aH K H A (cx (es.map λp=>.tup p.1) us (.tup k) u) ((jP es k b v).map (·.2.2)):=by
 unfold jP cx;rw[oM];by_cases c:U.tup k∈es.map λp=>U.tup p.1
 ·rw[hG c,hZ rfl,hZ c];clear c
  induction es generalizing us with
  |nil=>
   rw[aaI] at r;unfold aH at r;cases us with
   |nil=>exact aH.nil
   |cons=>obtain⟨_,_,e,_⟩:=r;cases e
  |cons q es ih=>
   cases us with
   |nil=>unfold aH at r;cases r
   |cons w us=>
    unfold aH at r;obtain⟨x,rr,e,h1,h2⟩:=r;cases e;rw[ZI,ZI,ZI,aaH];refine aH.cons ?_ (ih h2);by_cases c:q.1=k
    ·rw[hZ (by rw[c]),hZ c];exact p
    ·rw[hV (λz=>c (kF.mp z)),hV c];exact h1
 ·rw[hJ c,hV ZM,hV c,aad];exact r.snoc p
theorem K2 {k:List U}(h:(es.map (·.1)).Nodup):((jP es k b v).map (·.1)).Nodup:=by
 unfold jP;split
 ·rw[ZY];have:es.map ((λx=>x.1)∘λe=>if e.1=k then (e.1,e.2.1,v) else e)=es.map (·.1):=Z2 λe _=>by
   show (if e.1=k then (e.1,e.2.1,v) else e).1=e.1;split<;>rfl
  rw[this];exact h
 ·rename_i c;rw[aad,ZI,aaI];refine aa_.mpr ⟨h,by simp,?_⟩;intro x hx y hy e;rw[Z1.mp hy] at e;subst e;rw[oM] at c;apply c;rw[decide_eq_true_eq];obtain⟨e,he,rfl⟩:=ZO.mp hx;exact ZO.mpr ⟨e,he,rfl⟩
theorem G5 {k:List U}(h:∀e∈es,vo H e.1 e.2.1)(kb:vo H k b):∀e∈jP es k b v,vo H e.1 e.2.1:=by
 unfold jP;split
 ·intro e he;obtain⟨e',h1,rfl⟩:=ZO.mp he;split
  ·exact h e' h1
  ·exact h e' h1
 ·intro e he;rcases aam.mp he with z|z
  ·exact h e z
  ·rw[Z1.mp z];exact kb
theorem K3 {k:List U}:jP es k b v≠[]:=by
 unfold jP;split
 ·rename_i c;intro z;cases es with
  |nil=>cases c
  |cons e es=>cases z
 ·simp
theorem G6 {k v:U}(h:ks.length=us.length):(cx ks us k v).length<=us.length+1:=by
 unfold cx;split
 ·rw[ab1];lia
 ·rw[Z3,abp];exact ZS _
theorem xo.len (d:xo H a ks xs)(r:aH K H A us xs):ks.length=us.length:=by
 rcases d with⟨bb,_,rfl,rfl⟩|⟨es,_,_,rfl,rfl⟩
 ·rw[r.length,ZF,ZF]
 ·rw[r.length,ZF,ZF]
theorem Pd {k w:U}(mu:∀a,A a->Mu (H a))(ha:A a)(d:xo H a ks xs)(r:aH K H A us xs)(f:nF ks k=true)(hk:Rp K H A k y)(hw:Rp K H A w v)(hl:us.length<ZL){C:Hp->Prop}(hC:∀H',(∀b o,b≠a->H b=some o->H' b=some o)->k9 K H' A (.dct (dv ks k) (cx ks us k w)) a->C H'):Uz H a y v C:=by
 have ln:=d.len r;have l2:(cx ks us k w).length<=ZL:=aaP (G6 ln) hl;have nt:∀b ys,H b=some (.tup ys)->b≠a:=λb ys h e=>by
  subst e;have:=mu b ha;rw[h] at this;exact this
 have fin:∀(o:HO) (zs:List V),xo (cH H a o) a (dv ks k) zs->aH K H A (cx ks us k w) zs->k9 K (cH H a o) A (.dct (dv ks k) (cx ks us k w)) a:=λo zs d' r'=>
  ⟨zs,d',l2,r'.re mu (λb o' nb z=>kI _ b o' (λy=>nb (y▸ha)) z) λb z=>.inl z⟩
 have TZ:∀(es:List (List U×Z_×V)) (kk:List U) (b:Z_),fx H a es->vo H kk b->k=.tup kk->y=.ref b->ks=es.map (λp=>.tup p.1)->xs=es.map (·.2.2)->Uz H a y v C:=by
  rintro es kk b h kt rfl rfl rfl rfl;have le:es.length=us.length:=by rw[r.length,ZF]
  refine .inr ⟨es,kk,b,h,rfl,kt,by lia,λep=>hC _ (kI _) (fin _ _ (.inr ⟨jP es kk b v,K3,?_,(Fc es v).symm,rfl⟩) (Fd hw r))⟩;have tp:∀c ys,H c=some (.tup ys)->cH H a (DN a ep (jP es kk b v)) c=some (.tup ys):=λc ys hc=>by rw[a_ (nt c ys hc)];exact hc
  exact⟨.inl ⟨ep,bj⟩,K2 h.nd,λe he=>(G5 h.key kt e he).to tp⟩
 unfold nF at f;rw[ack,Z7,Z7] at f;rcases d with⟨bb,h,e1,e2⟩|⟨es,n,h,e1,e2⟩
 ·rcases f with⟨f1,f2⟩|⟨f1,f2⟩
  ·obtain⟨q,rfl,rfl⟩:=MO f1 hk;subst e1 e2;have lk:bb.length=us.length:=by rw[r.length,ZF]
   exact .inl ⟨_,.inl ⟨bb,q,h,rfl,by lia,rfl⟩,hC _ (kI _) (fin _ _ (.inl ⟨_,bj,(E_ bb v).symm,rfl⟩) (Fb hw r))⟩
  ·cases bb with
   |nil=>
    subst e1 e2;cases k<;>first|(cases f1;done)|skip
    rename_i kk;obtain⟨b,rfl,kt⟩:=qz f1 hk;exact TZ [] kk b ⟨.inr ⟨rfl,h⟩,abi,(λe he=>by cases he)⟩ kt rfl rfl rfl rfl
   |cons p bb=>
    exfalso;subst e1;rw[ZI,acu,Z7] at f2;obtain⟨p1,p2⟩:=p;cases p1<;>cases f2.1
 ·rcases f with⟨f1,f2⟩|⟨f1,f2⟩
  ·exfalso;subst e1;cases es with
   |nil=>exact n rfl
   |cons p es=>rw[ZI,acu,Z7] at f2;cases f2.1
  ·cases k<;>first|(cases f1;done)|skip
   rename_i kk;obtain⟨b,rfl,kt⟩:=qz f1 hk;exact TZ es kk b h kt rfl rfl e1 e2
section
variable {o i e f value:abH}{pos jD eQ cpos p1 p2:Pos}{b1 b2 b3:Bool}{m m1 m2 m3:Md}{g1 g2 g3:Ev->R (U×Ev)}{y:Str}
def zz:U->U->R U:=λu w=>match u with
 | .dct ks us=>if nF ks w=true then (match cX ks us w with
  |some z=>.ok z
  |none=>.stk) else .stk
 |_=>.stk
theorem R7 (h:Pk K H A u v)(c:G2 u=true\/G3 u=true):Rp K H A u v:=by
 cases u<;>first|(exfalso;rcases c with c|c<;>cases c;done)|(unfold Pk at h;unfold Rp;exact h)
theorem K4 {k:U}(f:nF ks k=true):G2 k=true\/G3 k=true:=by
 unfold nF at f;rw[ack,Z7,Z7] at f;rcases f with⟨f,_⟩|⟨f,_⟩
 ·exact .inl f
 ·cases k<;>first|(cases f;done)|exact .inr rfl
theorem Pe (hu:X.A.units+64<abo)(ha:DE X G o b1 m1 g1)(hb:DE X G i b2 m2 g2)(hs:Kr i:=by intro _ _;rfl)(hm:m1=.P->b2=false:=by first|exact λ_=>rfl|exact λh=>nomatch h):DE X G (.Subscript o i pos) (b1||b2) .S (aU zz g1 g2):=⟨(C5 hu ha.un hb.un hs).to λσ H Q h=>by
 have hp:ig X.K (λx y H Q=>∃a v,x=.ref a/\K0 H a y (some v)/\Q v H) .S zz:=λA H x y u w z Q hx hy mu e q=>by
  unfold zz at e;split at e;rotate_left
  ·cases e
  split at e
  ·rename_i fk;split at e
   ·rename_i z' hz;cases e;unfold Pk at hx;obtain⟨a,xs,rfl,d,l,r⟩:=hx;obtain⟨ov,g,q1,_⟩:=G4 d r fk (R7 hy (K4 fk));obtain⟨v,rfl,rp⟩:=q1 _ hz;exact⟨a,v,rfl,g,q v H (aR.refl _) rp⟩
   ·cases e
  ·cases e
 exact oy hp hm h⟩
def jS (i:Nat)(g2 g3:Ev->R (U×Ev)):Ev->R (U×Ev):=λρ=>match ρ[i]? with
 |some (some (.dct _ _))=>(g2 ρ).bind λk=>(g3 k.2).bind λx=>match x.2[i]? with
  |some (some (.dct ks us))=>if nF ks k.1=true then .ok ((cX ks us k.1).getD x.1,x.2) else .stk
  |_=>.stk
 |_=>.stk
theorem K5 {K:ZN}(d:xo H a ks xs):Pa H a:=by
 rcases d with⟨bb,h,_⟩|⟨es,_,h,_⟩
 ·exact .inl (.inl ⟨bb,.inl h⟩)
 ·exact .inr ⟨es,h⟩
theorem wm (q:cT K G Z A ρ σ H)(h:ρ[j]? = some (some (.dct ks us))):∃a xs,σ[j]? = some (some (.ref a))/\xo H a ks xs/\us.length<=ZL/\aH K H A us xs:=by
 obtain⟨v,h1,h2⟩:=q.slot j _ h;by_cases c:G.is j=true
 ·rw[hZ c] at h2;obtain⟨a,rfl,_,_,_,t⟩:=h2;obtain⟨xs,d,l,r⟩:=t;exact⟨a,xs,h1,d,l,r⟩
 ·rw[hV c] at h2;unfold Rp at h2;obtain⟨a,xs,rfl,_,d,l,r⟩:=h2;exact⟨a,xs,h1,d,l,r⟩
theorem tV (hu:X.A.units+64<abo)(he:DE X G e b1 m1 g1)(hf:DE X G f b2 m2 g2)(n1:m1≠.P:=by decide)(n2:m2≠.P:=by decide)(hN:X.N[j]? = some y:=by rfl)(hv:A8 X.env.scope y:=by first|exact Or.inl rfl|exact Or.inr (Or.inl rfl)|exact Or.inr (Or.inr rfl))(hd:(y==("__debug__":Str))=false:=by decide)(ly:(y==("__classdict__":Str))=false:=by decide)(M:M2 X (.Name y p1) "get" eQ e f cpos:=by exact⟨rfl,rfl,rfl,rfl⟩):DE X G (.Call (.Attribute (.Name y p1) "get" eQ) [e,f] [] cpos) (b1||b2) .S (jS j g1 g2):=⟨(G0 hu (f6 hN hv hd ly) he.un hf.un M).to λσ H Q h=>by
 obtain⟨Z,A,ρ,q,f⟩:=h;unfold jS at f;split at f
 ·rename_i Zk Zl h0;obtain⟨a,xs0,s0,d0,_,_⟩:=wm q h0;obtain⟨⟨k,ρ1⟩,e1,f⟩:=f.bind;obtain⟨⟨x,ρ2⟩,e2,f⟩:=f.bind;dsimp only at e2 f;split at f
  ·rename_i ks us h2;split at f
   ·rename_i fk;refine⟨.ref a,s0,a,rfl,K5 (K:=X.K) d0,Z,A,ρ,q,?_⟩;rw[e1];intro v1 H1 q1 x1 s1 vq;refine⟨Z,A,ρ1,q1,?_⟩;rw[e2];intro v2 H2 q2 x2 s2 pD;obtain⟨a',xs,s0',d,_,r⟩:=wm q2 h2;rw[s0] at s0';cases s0';obtain⟨ov,g,z1,z2⟩:=G4 d r fk (vq.laterS q1 x2 n1);refine⟨ov,g,f _ H2 q2 (x1.trans x2) (two s1 s2) ?_⟩;cases hz:cX ks us k with
    |none=>rw[z2 hz];exact pD.rp n2
    |some w=>obtain⟨v,rfl,rp⟩:=z1 _ hz;exact rp
   ·exact f.elim
  ·exact f.elim
 ·exact f.elim⟩
def lK (i:Nat)(gv gk:Ev->R (U×Ev)):Ev->SR:=λρ=>SR.of (gv ρ) λx=>if live x.2 i=true then SR.of (gk x.2) λy=>match y.2[i]? with
 |some (some (.dct ks us))=>if nF ks y.1=true/\us.length<ZL then .nx (y.2.set i (some (.dct (dv ks y.1) (cx ks us y.1 x.1)))) else .stk
 |_=>.stk
 else .stk
theorem xx (hu:X.A.units+64<abo)(hv:DE X G value b1 m1 g1)(hk:DE X G i b2 m2 g2)(n1:m1≠.P:=by decide)(n2:m2≠.P:=by decide)(hN:X.N[j]? = some y:=by rfl)(Yg:A8 X.env.scope y:=by first|exact Or.inl rfl|exact Or.inr (Or.inl rfl)|exact Or.inr (Or.inr rfl))(c:G.is j=true:=by rfl)(hd:(y==("__debug__":Str))=false:=by decide)(ly:(y==("__classdict__":Str))=false:=by decide)(hs:ac3 value (some (.Subscript (.Name y p1) i jD)) pos.line X.env=pure false:=by rfl):DS X G m (.Assign [.Subscript (.Name y p1) i jD] value pos) (lK j g1 g2):=⟨(C6 hu (f6 hN Yg hd ly) hk.un hv.un hs).to λD σ H h00=>by
 obtain⟨Z,A,ρ,q,f⟩:=h00;obtain⟨⟨w,ρ1⟩,e1,f⟩:=f.of;refine⟨Z,A,ρ,q,?_⟩;rw[e1];intro v H1 q1 x1 s1 vm;dsimp only at f;split at f
 ·rename_i hl;obtain⟨u00,hu0⟩:=sF hl;obtain⟨a0,h0,_⟩:=q1.own c hu0;obtain⟨⟨k,ρ2⟩,e2,f⟩:=f.of;refine⟨.ref a0,h0,Z,A,ρ1,q1,?_⟩;rw[e2];intro v2 H2 q2 x2 s2 pD;dsimp only at f;split at f
  ·rename_i ks us Xf;split at f
   ·rename_i fk;obtain⟨a0',k1,k2,_,_,k5⟩:=q2.own c Xf;rw[h0] at k1;cases k1;obtain⟨xs,d,_,r⟩:=k5;exact⟨a0,rfl,Pd q2.mu k2 d r fk.1 (pD.rp n2) ((vm.rp n1).re q1.mu x2 λb z=>.inl z) fk.2 λH' em t=>f A σ H' (q2.put c Xf h0 em t)⟩
   ·exact f.elim
  ·exact f.elim
 ·exact f.elim⟩
end
end L2
namespace Hc.Sx
open PySem.SetTable
def iP:Nat->Nat
 |0=>0
 |n+1=>5*iP n+1
theorem C8 (n:Nat):5 ^ n=4*iP n+1:=by
 induction n with
 |zero=>rfl
 |succ n ih=>rw[ab_,ih];show _=4*(5*iP n+1)+1;lia
theorem K6 (m n:Nat):iP (m+n)=5 ^ n*iP m+iP n:=by
 induction n with
 |zero=>simp[iP]
 |succ n ih=>
  show 5*iP (m+n)+1=5 ^ (n+1)*iP m+(5*iP n+1);rw[ih,ab_,aa6 (5 ^ n) 5,Nat.mul_add,aba];lia
theorem K7 (n:Nat):iP n % 2=n % 2:=by
 induction n with
 |zero=>rfl
 |succ n ih=>unfold iP;lia
theorem K8 (d:Nat):iP (d+d)=iP d*(2*(2*iP d+1)):=by
 rw[K6,C8];have:iP d*(2*(2*iP d+1))=4*(iP d*iP d)+2*iP d:=by
  rw[←aba,Nat.mul_add,aa6 (iP d) 2,Nat.mul_one];have:2*iP d*(2*iP d)=4*(iP d*iP d):=by
   rw[aba,adT (iP d) 2,←aba]
  rw[this]
 rw[this,Nat.add_mul,aba];lia
theorem Wy (k q:Nat):Nat.Coprime (2 ^ k) (2*q+1):=by
 refine Nat.Coprime.pow_left k ?_;unfold Nat.Coprime;rw[Nat.gcd_rec,show (2*q+1) % 2=1 by lia];rfl
theorem C9:∀(k d:Nat),2 ^ k ∣ iP d->2 ^ k ∣ d
 |0,d,_=>⟨d,by simp⟩
 |k+1,d,h=>by
  have e:d % 2=0:=by
   rw[←K7];obtain⟨c,hc⟩:=h;rw[hc,ab_,aba,adT];lia
  obtain⟨d',rfl⟩:∃d',d=d'+d':=⟨d / 2,by lia⟩;rw[K8,ab_,aa6 (2 ^ k) 2,adT (iP d') 2] at h;have h1:2 ^ k ∣ iP d'*(2*iP d'+1):=Nat.dvd_of_mul_dvd_mul_left (by decide) h;have h2:2 ^ k ∣ iP d':=adH (Wy k _) h1;obtain⟨c,hc⟩:=C9 k d' h2;exact⟨c,by rw[ab_,aba,adT,←hc];lia⟩
def vD (M x:Nat):Nat->Nat
 |0=>x
 |n+1=>(vD M x n*5+1) % M
theorem C_ (M x:Nat):∀n,vD M x n % M=(5 ^ n*x+iP n) % M
 |0=>by simp[vD,iP]
 |n+1=>by
  unfold vD iP;rw[Nat.mod_mod,ab_,aa6 (5 ^ n) 5,aba];have:=C_ M x n;rw[Nat.add_mod,Nat.mul_mod,this,←Nat.mul_mod,←Nat.add_mod];congr 1;rw[aa6 _ 5,Nat.mul_add];lia
theorem xy (M x m:Nat):∀n,vD M x (m+n)=vD M (vD M x m) n
 |0=>rfl
 |n+1=>by
  show (vD M x (m+n)*5+1) % M=_;rw[xy M x m n];rfl
theorem G7 {M x:Nat}(h:x<M):∀n,vD M x n<M
 |0=>h
 |n+1=>ac0 _ (by lia)
theorem G8 {x d:Nat}(hx:x<2 ^ k)(h:vD (2 ^ k) x d=x):2 ^ k ∣ d:=by
 have e:=C_ (2 ^ k) x d;rw[h,C8,Nat.add_mul,Nat.one_mul] at e;have h2:2 ^ k ∣ iP d*(2*(2*x)+1):=by
  have:iP d*(2*(2*x)+1)=4*iP d*x+iP d:=by
   rw[Nat.mul_add,Nat.mul_one,←aba,←aba,aba (iP d) 2 2,aa6 (iP d)]
  rw[this];have e2:(x+(4*iP d*x+iP d)) % 2 ^ k=x % 2 ^ k:=by rw[e];congr 1;lia
  have e3:((4*iP d*x+iP d)) % 2 ^ k=0:=by
   have:=(Nat.mod_eq_mod_iff (x:=x+(4*iP d*x+iP d)) (y:=x) (z:=2 ^ k)).mp e2;obtain⟨a,b,xi⟩:=this;have:4*iP d*x+iP d+2 ^ k*a=2 ^ k*b:=by rw[aa6 _ a,aa6 _ b];lia
   have h3:2 ^ k ∣ 4*iP d*x+iP d:=(Nat.dvd_add_right (Nat.dvd_mul_right (2 ^ k) a)).mp (by rw[aeK,this];exact Nat.dvd_mul_right _ _);exact Nat.mod_eq_zero_of_dvd h3
  exact Nat.dvd_of_mod_eq_zero e3
 exact C9 k d (adH (Wy k _) h2)
theorem K9 {x a b:Nat}(hx:x<2 ^ k)(ha:a<2 ^ k)(hb:b<2 ^ k)(h:vD (2 ^ k) x a=vD (2 ^ k) x b):a=b:=by
 have key:∀a b,a<=b->b<2 ^ k->vD (2 ^ k) x a=vD (2 ^ k) x b->a=b:=λa b xi hb h=>by
  obtain⟨d,rfl⟩:∃d,b=a+d:=⟨b-a,by lia⟩;rw[xy] at h;have:=G8 (G7 hx a) h.symm;have:d=0:=Nat.eq_zero_of_dvd_of_lt this (by lia);lia
 rcases Nat.le_total a b with z|z
 ·exact key a b z hb h
 ·exact (key b a z ha h.symm).symm
theorem K_ {x y:Nat}(hx:x<2 ^ k)(hy:y<2 ^ k):∃n,n<2 ^ k/\vD (2 ^ k) x n=y:=by
 refine acb λhn=>?_;have nd:((ZU (2 ^ k)).map (vD (2 ^ k) x)).Nodup:=by
  unfold ae_;rw[abE];refine acm (λ{a b} ha hb xi e=>?_) ada;exact xi (K9 hx (Z6.mp ha) (Z6.mp hb) e)
 have:=acr (l₁:=y::(ZU (2 ^ k)).map (vD (2 ^ k) x)) (l₂:=ZU (2 ^ k))
  (aax.mpr ⟨λh=>by
   obtain⟨n,h1,h2⟩:=ZO.mp h;exact hn ⟨n,Z6.mp h1,h2⟩,nd⟩)
  (λz hz=>by
   rcases ZX.mp hz with e|hz
   ·rw[e];exact Z6.mpr hy
   ·obtain⟨n,_,rfl⟩:=ZO.mp hz;exact Z6.mpr (G7 hx n))
 rw[Z0,ZF,aaa] at this;lia
def gg (mask:Nat):Nat->Nat×Nat->Nat×Nat
 |0,p=>p
 |n+1,p=>gg mask n (leap mask p.1 p.2)
theorem wo (mask m n:Nat)(p:Nat×Nat):gg mask (m+n) p=gg mask n (gg mask m p):=by
 induction m generalizing p with
 |zero=>rw[abd];rfl
 |succ m ih=>rw[Nat.succ_add];exact ih _
theorem wq (mask:Nat):∀(n i q:Nat),(gg mask n (i,q)).2=q / 32 ^ n
 |0,i,q=>by simp[gg]
 |n+1,i,q=>by
  show (gg mask n (leap mask i q)).2=_;unfold leap;rw[wq,Nat.div_div_eq_div_mul,ab_,aa6 32]
theorem zA (mask:Nat):∀(n i q:Nat),i<=mask->(gg mask n (i,q)).1<=mask
 |0,i,q,h=>h
 |n+1,i,q,h=>zA mask n _ _ (abX (ac0 _ (acK _)))
theorem tW (mask:Nat):∀(n i:Nat),gg mask n (i,0)=(vD (mask+1) i n,0)
 |0,i=>rfl
 |n+1,i=>by
  rw[aeK n 1,wo];show gg mask n (leap mask i 0)=_;rw[show leap mask i 0=(vD (mask+1) i 1,0) by unfold leap vD vD;simp,tW,xy]
theorem wu (hm:mask+1=2 ^ k){q y:Nat}(hi:i<=mask)(hq:q<2 ^ 64)(hy:y<=mask):∃n,n<mask+14/\(gg mask n (i,q)).1=y:=by
 have z:(gg mask 13 (i,q)).2=0:=by
  rw[wq];exact Nat.div_eq_of_lt (acG hq (by decide))
 have e:gg mask 13 (i,q)=((gg mask 13 (i,q)).1,0):=by rw[←z]
 obtain⟨n,h1,h2⟩:=K_ (k:=k) (x:=(gg mask 13 (i,q)).1) (y:=y) (by rw[←hm];exact Nat.lt_succ_of_le (zA mask 13 i q hi)) (by lia);refine⟨13+n,by lia,?_⟩;rw[wo,e,tW,hm];exact h2
end Hc.Sx
namespace Hc.Sx
open PySem.SetTable
def R8 (xs:Array Nat):Prop:=∀i j (hi:i<xs.size) (hj:j<xs.size),i<j->xs[i]<xs[j]
theorem tX {xs:Array Nat}{j:Nat}(hr:R8 xs):∀(fuel lo hi:Nat),lo<=hi->hi<=xs.size->hi-lo<=fuel->(∀i (h:i<xs.size),i<lo->xs[i]<j)->(∀i (h:i<xs.size),hi<=i->j<=xs[i])->
  (∀i (h:i<xs.size),i<below.go xs j fuel lo hi->xs[i]<j)/\(∀i (h:i<xs.size),below.go xs j fuel lo hi<=i->j<=xs[i])/\below.go xs j fuel lo hi<=xs.size
 |0,lo,hi,h1,h2,h3,a,b=>by
  have:lo=hi:=by lia
  subst this;exact⟨a,b,h2⟩
 |fuel+1,lo,hi,h1,h2,h3,a,b=>by
  unfold below.go;by_cases c:lo<hi
  ·rw[hZ c];dsimp only;have hm:(lo+hi) / 2<xs.size:=by lia
   have hd:xs.getD ((lo+hi) / 2) j=xs[(lo+hi) / 2]:=by simp[adU,hm]
   rw[hd];by_cases c2:xs[(lo+hi) / 2]<j
   ·rw[hZ c2];refine tX hr fuel _ hi (by lia) h2 (by lia) (λi h yE=>?_) b;rcases acL i ((lo+hi) / 2) with z|z
    ·exact acG (hr _ _ h hm z) c2
    ·have:i=(lo+hi) / 2:=by lia
     subst this;exact c2
   ·rw[hV c2];refine tX hr fuel lo _ (by lia) (by lia) (by lia) a (λi h yE=>?_);rcases acL ((lo+hi) / 2) i with z|z
    ·have:=hr _ _ hm h z;lia
    ·have:i=(lo+hi) / 2:=by lia
     subst this;lia
  ·rw[hV c];have:lo=hi:=by lia
   subst this;exact⟨a,b,h2⟩
theorem oN {xs:Array Nat}(hr:R8 xs):(∀i (h:i<xs.size),i<below xs j->xs[i]<j)/\(∀i (h:i<xs.size),below xs j<=i->j<=xs[i])/\below xs j<=xs.size:=
 tX hr _ _ _ (abc _) (ZS _) (by lia) (λi _ h=>by lia) (λi h h'=>by lia)
theorem G9 {xs:Array Nat}(hr:R8 xs)(h:xs[i]? = some j):below xs j=i:=by
 obtain⟨hi,e⟩:=aaD.mp h;obtain⟨a,b,c⟩:=oN (j:=j) hr;rcases adV (below xs j) i with z|z|z
 ·have h1:=b (below xs j) (by lia) (ZS _);have h2:=hr _ _ (by lia) hi z;lia
 ·exact z
 ·have:=a i hi z;lia
variable {V:Type}
structure Dd (t:ac_)(es:Array (Int×V))(C:Nat->Option (Int×V)):Prop where
 ris:R8 t.place
 sz:t.place.size=es.size
 dum:t.dummies=#[]
 pow:∃k,t.mask+1=2 ^ k
 room:es.size<=t.mask
 top:∀(i j:Nat),t.place[i]? = some j->j<=t.mask
 con:∀(j:Nat) (e:Int×V),C j=some e↔∃i:Nat,t.place[i]? = some j/\es[i]? = some e
section
variable {es:Array (Int×V)}{C:Nat->Option (Int×V)}
theorem zB {xs:Array Nat}(h:xs=#[])(j:Nat):has xs j=false:=by subst h;rfl
theorem Dd.live (T:Dd t es C){e:Int×V}(h:C j=some e):∃i,t.slot j=.live i/\es[i]? = some e/\t.place[i]? = some j:=by
 obtain⟨i,h1,h2⟩:=(T.con j e).mp h;refine⟨i,?_,h2,h1⟩;unfold SetTable.slot;dsimp only;rw[G9 T.ris h1,h1];simp
theorem Dd.empty (T:Dd t es C)(h:C j=none):t.slot j=.empty:=by
 unfold SetTable.slot;dsimp only;have n:(t.place[below t.place j]? == some j)=false:=by
  rw[acW];intro c;have c:t.place[below t.place j]? = some j:=by simpa using c
  have hi:=(aaD.mp c).1;have Oc:below t.place j<es.size:=by rw[←T.sz];exact hi
  have:es[below t.place j]? = some es[below t.place j]:=aae Oc;rw[(T.con j _).mpr ⟨_,c,this⟩] at h;cases h
 rw[n,zB T.dum];rfl
theorem Dd.free (T:Dd t es C):∃y,y<=t.mask/\C y=none:=by
 refine acb λhn=>?_;have hs:=T.sz;have hr:=T.room;have:=acr (l₁:=ZU (t.mask+1)) (l₂:=t.place.toList) ada (λy hy=>by
  have hy:=Z6.mp hy;cases e:C y with
  |none=>exact absurd ⟨y,by lia,e⟩ hn
  |some v=>
   obtain⟨i,h1,_⟩:=(T.con y v).mp e;have:=Array.mem_of_getElem? h1;simpa using this)
 rw[aaa,aao] at this;lia
end
def adv (mask:Nat)(p:Probe):Probe:=
 if p.more>0 then {p with j:=p.j+1,more:=p.more-1} else
 {p with j:=(leap mask p.i p.perturb).1,more:=runEnd mask (leap mask p.i p.perturb).1-(leap mask p.i p.perturb).1,i:=(leap mask p.i p.perturb).1,perturb:=(leap mask p.i p.perturb).2}
theorem G_ (t:ac_)(p:Probe):t.advance p=adv t.mask p:=by unfold SetTable.advance adv;rfl
def advs (mask:Nat):Nat->Probe->Probe
 |0,p=>p
 |n+1,p=>advs mask n (adv mask p)
theorem jc (mask m n:Nat)(p:Probe):advs mask (m+n) p=advs mask n (advs mask m p):=by
 induction m generalizing p with
 |zero=>rw[abd];rfl
 |succ m ih=>rw[Nat.succ_add];exact ih _
theorem wx (mask n:Nat)(p:Probe):advs mask (n+1) p=adv mask (advs mask n p):=by rw[jc];rfl
structure lL (mask:Nat)(p:Probe):Prop where
 i:p.i<=mask
 q:p.perturb<2 ^ 64
 m:p.more<=9
 d:p.dummy=none
theorem pW (mask i:Nat):runEnd mask i-i<=9:=by unfold runEnd;split<;>lia
theorem lL.adv {p:Probe}(h:lL mask p):lL mask (adv mask p):=by
 unfold Hc.Sx.adv;split
 ·exact⟨h.i,h.q,by have:=h.m;dsimp only;lia,h.d⟩
 ·refine⟨abX (ac0 _ (acK _)),?_,pW _ _,h.d⟩;exact abw (Nat.div_le_self _ _) h.q
theorem lL.advs {mask:Nat}:∀(n:Nat) {p:Probe},lL mask p->lL mask (advs mask n p)
 |0,_,h=>h
 |n+1,_,h=>lL.advs n h.adv
theorem De (h:Int):bits h<2 ^ 64:=by
 unfold bits;have:h % (2 ^ 64:Int)<2 ^ 64:=abP _ (by decide);have h0:0<=h % (2 ^ 64:Int):=acn _ (by decide);lia
theorem lL.start (t:ac_)(h:Int):lL t.mask (t.probeStart h):=
 ⟨abX (ac0 _ (acK _)),De h,pW _ _,rfl⟩
theorem tY {mask:Nat}:∀(n:Nat) {p:Probe},p.more=n->(advs mask (n+1) p).j=(leap mask p.i p.perturb).1/\(advs mask (n+1) p).i=(leap mask p.i p.perturb).1/\(advs mask (n+1) p).perturb=(leap mask p.i p.perturb).2/\(advs mask (n+1) p).more<=9
 |0,p,e=>by
  show (adv mask p).j=_/\(adv mask p).i=_/\(adv mask p).perturb=_/\(adv mask p).more<=9;unfold adv;rw[hV (by lia)];exact⟨rfl,rfl,rfl,pW _ _⟩
 |n+1,p,e=>by
  have:=tY (mask:=mask) n (p:=adv mask p) (by unfold adv;rw[hZ (by lia)];show p.more-1=n;lia);have e1:(adv mask p).i=p.i/\(adv mask p).perturb=p.perturb:=by unfold adv;rw[hZ (by lia)];exact⟨rfl,rfl⟩
  rw[e1.1,e1.2] at this;exact this
theorem qA {mask:Nat}:∀(n:Nat) {p:Probe},lL mask p->∃m,m<=10*(n+1)/\(advs mask m p).j=(gg mask (n+1) (p.i,p.perturb)).1
 |0,p,h=>by
  obtain⟨a,_⟩:=tY (mask:=mask) p.more (p:=p) rfl;exact⟨p.more+1,by have:=h.m;lia,a⟩
 |n+1,p,h=>by
  obtain⟨a,b,c,d⟩:=tY (mask:=mask) p.more (p:=p) rfl;obtain⟨m,h1,h2⟩:=qA n (lL.advs (p.more+1) h);refine⟨p.more+1+m,by have:=h.m;lia,?_⟩;rw[jc,h2,b,c];rfl
theorem wy (hm:mask+1=2 ^ k){p:Probe}(h:lL mask p){y:Nat}(hy:y<=mask):∃m,m<10*turns mask/\(advs mask m p).j=y:=by
 obtain⟨n,h1,h2⟩:=wu hm (i:=(leap mask p.i p.perturb).1) (q:=(leap mask p.i p.perturb).2) (y:=y) (abX (ac0 _ (acK _))) (abw (Nat.div_le_self _ _) h.q) hy;obtain⟨m,h3,h4⟩:=qA n h;refine⟨m,by unfold turns;lia,?_⟩;rw[h4];exact h2
section
variable {es:Array (Int×V)}{C:Nat->Option (Int×V)}{hashAt:Nat->Int}
theorem Dg (T:Dd t es C)(hh:∀i e,es[i]? = some e->hashAt i=e.1)(h:Int):∀(m fuel:Nat) (p:Probe),lL t.mask p->m<fuel->C (advs t.mask m p).j=none->
    ∃m',m'<=m/\(∀a,a<m'->∃e,C (advs t.mask a p).j=some e/\e.1≠h)/\
      ((C (advs t.mask m' p).j=none/\probe.go t hashAt h fuel p=some (.empty (advs t.mask m' p).j none)) \/
       ∃e i,C (advs t.mask m' p).j=some e/\e.1=h/\es[i]? = some e/\t.place[i]? = some (advs t.mask m' p).j/\probe.go t hashAt h fuel p=some (.candidate (advs t.mask m' p).j i (advs t.mask (m'+1) p)))
  |m,0,p,_,hf,_=>by lia
  |m,fuel+1,p,hp,hf,he=>by
    unfold probe.go;cases c:C p.j with
    |none=>
      refine⟨0,abc _,λa ha=>by lia,.inl ⟨c,?_⟩⟩;rw[T.empty c];dsimp only;rw[hp.d];rfl
    |some e=>
      obtain⟨i,h1,h2,h3⟩:=T.live c;rw[h1];dsimp only;rw[hh i e h2];by_cases q:e.1=h
      · refine⟨0,abc _,λa ha=>by lia,.inr ⟨e,i,c,q,h2,h3,?_⟩⟩;rw[hZ (by rw[q];simp),G_];rfl
      · rw[hV (by simpa using q),G_];cases m with
        |zero=>rw[show advs t.mask 0 p=p from rfl,c] at he;cases he
        |succ m=>
          obtain⟨m',g1,g2,g3⟩:=Dg T hh h m fuel (adv t.mask p) hp.adv (by lia) he;refine⟨m'+1,by lia,λa ha=>?_,g3⟩;cases a with
          |zero=>exact⟨e,c,q⟩
          |succ a=>exact g2 a (by lia)
theorem BD (T:Dd t es C)(hh:∀i e,es[i]? = some e->hashAt i=e.1)(h:Int){p:Probe}(hp:lL t.mask p) :
    ∃m',(∀a,a<m'->∃e,C (advs t.mask a p).j=some e/\e.1≠h)/\
      ((C (advs t.mask m' p).j=none/\t.probe hashAt h p=some (.empty (advs t.mask m' p).j none)) \/
       ∃e i,C (advs t.mask m' p).j=some e/\e.1=h/\es[i]? = some e/\t.place[i]? = some (advs t.mask m' p).j/\t.probe hashAt h p=some (.candidate (advs t.mask m' p).j i (advs t.mask (m'+1) p))):=by
  obtain⟨y,hy,hc⟩:=T.free;obtain⟨k,hk⟩:=T.pow;obtain⟨m,h1,h2⟩:=wy hk hp hy;obtain⟨m',_,g2,g3⟩:=Dg T hh h m _ p hp h1 (by rw[h2];exact hc);exact⟨m',g2,g3⟩
end
end Hc.Sx
namespace Hc.Sx
open PySem.SetTable
theorem jT {α:Type}(xs:Array α)(p:Nat)(x:α):(insertAt xs p x).toList=xs.toList.take p++x::xs.toList.drop p:=by
 unfold insertAt;simp[Array.toList_extract,List.extract_eq_drop_take];exact List.take_of_length_le (by simp)
theorem bT {α:Type}{xs:Array α}{x:α}(h:p<=xs.size)(i:Nat):(insertAt xs p x)[i]? = if i<p then xs[i]? else if i=p then some x else xs[i-1]? := by
 rw[←aaj,jT];have lt:(xs.toList.take p).length=p:=by rw[abk,aao];lia
 by_cases c:i<p
 ·rw[hZ c,abI (by lia),aeY c,aaj]
 ·rw[hV c,ab4 (by lia),lt];by_cases c2:i=p
  ·rw[hZ c2,c2,Nat.sub_self];rfl
  ·rw[hV c2,show i-p=(i-p-1)+1 by lia,aaR,List.getElem?_drop,aaj];congr 1;lia
theorem g9 {α:Type}{xs:Array α}{x:α}(h:p<=xs.size):(insertAt xs p x).size=xs.size+1:=by
 rw[←aao,jT,Z3,Z0,abk,List.length_drop,aao];lia
variable {V:Type}
def Pf (C:Nat->Option (Int×V))(j:Nat)(e:Int×V):Nat->Option (Int×V):=λy=>if y=j then some e else C y
def MP (mask:Nat)(st:Int->Probe)(C:Nat->Option (Int×V)):Prop:=∀(j:Nat) (e:Int×V),C j=some e->∃n,(advs mask n (st e.1)).j=j/\∀m,m<n->∃e',C (advs mask m (st e.1)).j=some e'
section
variable {es:Array (Int×V)}{C:Nat->Option (Int×V)}
theorem Dd.put (T:Dd t es C){e:Int×V}(hj:j<=t.mask)(hc:C j=none)(hr:es.size+1<=t.mask) :
  Dd (t.put j).1 (insertAt es (t.put j).2 e) (Pf C j e)/\(t.put j).1.mask=t.mask/\(t.put j).1.plain=t.plain/\(t.put j).1.led=t.led/\(t.put j).1.moves=t.moves/\(t.put j).1.finger=t.finger:=by
 obtain⟨a,b,c⟩:=oN (j:=j) T.ris;have nz:∀i,t.place[i]? ≠ some j:=λi h=>by
  have hi:=(aaD.mp h).1;have Oc:i<es.size:=by rw[←T.sz];exact hi
  rw[(T.con j es[i]).mpr ⟨i,h,aae Oc⟩] at hc;cases hc
 have ep:(t.put j).1={t with place:=insertAt t.place (below t.place j) j}:=by
  unfold SetTable.put;dsimp only;rw[zB T.dum];rfl
 have e2:(t.put j).2=below t.place j:=rfl;have c2:below t.place j<=es.size:=by rw[←T.sz];exact c
 rw[ep,e2];refine⟨⟨?_,?_,T.dum,T.pow,?_,?_,?_⟩,rfl,rfl,rfl,rfl,rfl⟩
 ·intro i i' hi yE lt;have g:=λx=>bT (x:=j) c x;dsimp only at hi yE ⊢;have e1:=g i;have AS:=g i';rw[aae hi] at e1;rw[aae yE] at AS;rw[g9 c] at hi yE;have at_:∀x (hx:x<t.place.size),t.place[x]? = some t.place[x]:=λx hx=>aae hx;have Yh:∀x (hx:x<t.place.size),t.place[x]≠j:=λx hx z=>nz x (by rw[at_ x hx,z]);by_cases q:i<below t.place j
  ·rw[hZ q,at_ i (by lia)] at e1;have e1:=aab e1;rw[e1];by_cases q':i'<below t.place j
   ·rw[hZ q',at_ i' (by lia)] at AS;rw[aab AS];exact T.ris _ _ _ _ lt
   ·rw[hV q'] at AS;by_cases r':i'=below t.place j
    ·rw[hZ r'] at AS;rw[aab AS];exact a i (by lia) q
    ·rw[hV r',at_ (i' - 1) (by lia)] at AS;rw[aab AS];have h1:=a i (by lia) q;have h2:=b (i' - 1) (by lia) (by lia);lia
  ·rw[hV q] at e1;rw[hV (by lia),hV (by lia),at_ (i' - 1) (by lia)] at AS;rw[aab AS];by_cases r:i=below t.place j
   ·rw[hZ r] at e1;rw[aab e1];have h2:=b (i' - 1) (by lia) (by lia);have h3:=Yh (i' - 1) (by lia);lia
   ·rw[hV r,at_ (i-1) (by lia)] at e1;rw[aab e1];exact T.ris _ _ _ _ (by lia)
 ·show (insertAt t.place _ j).size=_;rw[g9 c,g9 c2,T.sz]
 ·rw[g9 c2];exact hr
 ·intro i y h;have h:(insertAt t.place (below t.place j) j)[i]? = some y:=h;rw[bT c] at h;split at h
  ·exact T.top i y h
  ·split at h
   ·cases h;exact hj
   ·exact T.top _ y h
 ·intro y v;show Pf C j e y=some v↔∃i,(insertAt t.place (below t.place j) j)[i]? = some y/\(insertAt es (below t.place j) e)[i]? = some v;unfold Pf;constructor
  ·intro h;split at h
   ·rename_i q;cases h;subst q;refine⟨below t.place y,?_,?_⟩
    ·rw[bT c,hV (aaQ _),hZ rfl]
    ·rw[bT c2,hV (aaQ _),hZ rfl]
   ·obtain⟨i,h1,h2⟩:=(T.con y v).mp h;by_cases q:i<below t.place j
    ·exact⟨i,by rw[bT c,hZ q];exact h1,by rw[bT c2,hZ q];exact h2⟩
    ·exact⟨i+1,by rw[bT c,hV (by lia),hV (by lia)];exact h1,by rw[bT c2,hV (by lia),hV (by lia)];exact h2⟩
  ·rintro⟨i,h1,h2⟩;rw[bT c] at h1;rw[bT c2] at h2;by_cases q:i<below t.place j
   ·rw[hZ q] at h1 h2;rw[hV (λz=>nz i (by rw[h1,z]))];exact (T.con y v).mpr ⟨i,h1,h2⟩
   ·rw[hV q] at h1 h2;by_cases r:i=below t.place j
    ·rw[hZ r] at h1 h2;rw[hZ (aab h1).symm];exact h2
    ·rw[hV r] at h1 h2;rw[hV (λz=>nz (i-1) (by rw[h1,z]))];exact (T.con y v).mpr ⟨_,h1,h2⟩
theorem MP.up {st:Int->Probe}(P:MP mask st C){e:Int×V}(hb:∀m,m<n->∃e',C (advs mask m (st e.1)).j=some e')(hc:C (advs mask n (st e.1)).j=none):MP mask st (Pf C (advs mask n (st e.1)).j e):=by
 have JR:∀y,(∃e',C y=some e')->∃e',Pf C (advs mask n (st e.1)).j e y=some e':=λy h00=>by
  obtain⟨e',h⟩:=h00;unfold Pf;split
  ·exact⟨_,rfl⟩
  ·exact⟨e',h⟩
 intro j v h;unfold Pf at h;split at h
 ·rename_i q;cases h;exact⟨n,q.symm,λm hm=>JR _ (hb m hm)⟩
 ·obtain⟨n',h1,h2⟩:=P j v h;exact⟨n',h1,λm hm=>JR _ (h2 m hm)⟩
theorem MP.met {st:Int->Probe}(P:MP mask st C){h:Int}(hc:C (advs mask n (st h)).j=none){e:Int×V}(he:C j=some e)(hh:e.1=h):∃m,m<n/\(advs mask m (st h)).j=j:=by
 obtain⟨m,h1,h2⟩:=P j e he;rw[hh] at h1 h2;rcases adV m n with z|z|z
 ·exact⟨m,z,h1⟩
 ·subst z;rw[h1,he] at hc;cases hc
 ·obtain⟨e',q⟩:=h2 n z;rw[q] at hc;cases hc
end
def adp (mask:Nat)(h:Int):Probe:={j:=bits h % (mask+1),more:=runEnd mask (bits h % (mask+1))-bits h % (mask+1),i:=bits h % (mask+1),perturb:=bits h,dummy:=none}
theorem pX {mask:Nat}:∀(k:Nat) {p:Probe},k<=p.more->(advs mask k p).j=p.j+k/\(advs mask k p).more=p.more-k/\(advs mask k p).i=p.i/\(advs mask k p).perturb=p.perturb/\(advs mask k p).dummy=p.dummy
 |0,p,_=>⟨rfl,rfl,rfl,rfl,rfl⟩
 |k+1,p,h=>by
  obtain⟨a,b,c,d,e⟩:=pX (mask:=mask) k (p:=adv mask p) (by unfold adv;rw[hZ (by lia)];dsimp only;lia);have e1:(adv mask p).j=p.j+1/\(adv mask p).more=p.more-1/\(adv mask p).i=p.i/\(adv mask p).perturb=p.perturb/\(adv mask p).dummy=p.dummy:=by unfold adv;rw[hZ (by lia)];exact⟨rfl,rfl,rfl,rfl,rfl⟩
  refine⟨?_,?_,c.trans e1.2.2.1,d.trans e1.2.2.2.1,e.trans e1.2.2.2.2⟩
  ·show (advs mask k (adv mask p)).j=_;rw[a,e1.1];lia
  ·show (advs mask k (adv mask p)).more=_;rw[b,e1.2.1];lia
theorem wz {mask:Nat}{owner:Array (Option Nat)}(hs:owner.size=mask+1):∀(n fuel:Nat) (p:Probe),p.j=p.i->p.more=runEnd mask p.i-p.i->p.i<=mask->n<fuel->owner[(gg mask n (p.i,p.perturb)).1]? = some none->
  ∃m,layClean.free mask owner fuel p.i p.perturb=some (advs mask m p).j/\owner[(advs mask m p).j]? = some none/\∀a,a<m->∃i,owner[(advs mask a p).j]? = some (some i)
 |n,0,p,_,_,_,hf,_=>by lia
 |n,fuel+1,p,hj,hm,hi,hf,hn=>by
  have re:runEnd mask p.i<=mask/\p.i<=runEnd mask p.i:=by unfold runEnd;split<;>lia
  have at_:∀a,a<=p.more->∃o,owner[p.i+a]? = some o:=λa ha=>⟨owner[p.i+a]'(by lia),aae (by lia)⟩;have gd:∀a o,owner[p.i+a]? = some o->owner.getD (p.i+a) (some 0)=o:=λa o h=>by
   obtain⟨h1,h2⟩:=aaD.mp h;simp[adU,h1,h2]
  unfold layClean.free;cases hq:(ZU (runEnd mask p.i+1-p.i)).find? (λk=>(owner.getD (p.i+k) (some 0)).isNone) with
  |some k=>
   obtain⟨h1,as,bs,h2,h3⟩:=List.find?_eq_some_iff_append.mp hq;have hk:k<runEnd mask p.i+1-p.i:=Z6.mp (by rw[h2];simp);have Od:k<=p.more:=by lia
   obtain⟨o,ho⟩:=at_ k Od;rw[gd k o ho] at h1;have on:o=none:=by cases o with
    |none=>rfl
    |some x=>cases h1
   subst on;refine⟨k,?_,?_,λa ha=>?_⟩
   ·dsimp only;rw[(pX k Od).1,hj]
   ·rw[(pX k Od).1,hj];exact ho
   ·rw[(pX a (by lia)).1,hj];obtain⟨o,ho⟩:=at_ a (by lia);have am:a∈as:=by
     have la:as.length=k:=by
      have e:(ZU (runEnd mask p.i+1-p.i))[as.length]? = some k:=by rw[h2,ab4 (ZS _),Nat.sub_self];rfl
      have lt:as.length<runEnd mask p.i+1-p.i:=by
       have:=(ZQ.mp e).1;simpa using this
      rw[aaT lt] at e;exact aab e
     have e:(ZU (runEnd mask p.i+1-p.i))[a]? = some a:=aaT (by lia);rw[h2,abI (by lia)] at e;exact aa1 e
    have:=h3 a am;rw[gd a o ho] at this;cases o with
    |none=>simp at this
    |some x=>exact⟨x,ho⟩
  |none=>
   have all:=List.find?_eq_none.mp hq;have Xg:∀a,a<=p.more->∃i,owner[p.i+a]? = some (some i):=λa ha=>by
    obtain⟨o,ho⟩:=at_ a ha;have:=all a (Z6.mpr (by lia));rw[gd a o ho] at this;cases o with
    |none=>simp at this
    |some x=>exact⟨x,ho⟩
   cases n with
   |zero=>
    obtain⟨i,h⟩:=Xg 0 (abc _);rw[show gg mask 0 (p.i,p.perturb)=(p.i,p.perturb) from rfl,←aeL p.i,h] at hn;cases hn
   |succ n=>
    obtain⟨a1,a2,a3,a4,a5⟩:=pX (mask:=mask) p.more (p:=p) (ZS _);have e1:advs mask (p.more+1) p={advs mask p.more p with j:=(leap mask p.i p.perturb).1,more:=runEnd mask (leap mask p.i p.perturb).1-(leap mask p.i p.perturb).1,i:=(leap mask p.i p.perturb).1,perturb:=(leap mask p.i p.perturb).2}:=by
     rw[wx];unfold adv;rw[hV (by lia),a3,a4]
    obtain⟨m,g1,g2,g3⟩:=wz hs n fuel (advs mask (p.more+1) p) (by rw[e1]) (by rw[e1]) (by rw[e1];exact abX (ac0 _ (acK _))) (by lia) (by rw[e1];exact hn);refine⟨p.more+1+m,?_,by rw[jc];exact g2,λa ha=>?_⟩
    ·rw[jc];rw[e1] at g1 ⊢;exact g1
    ·rcases acL a (p.more+1) with z|z
     ·rw[(pX a (by lia)).1,hj];exact Xg a (by lia)
     ·have:=g3 (a-(p.more+1)) (by lia);rw[←jc,show p.more+1+(a-(p.more+1))=a by lia] at this;exact this
end Hc.Sx
namespace Hc.Sx
open PySem.SetTable
structure MQ (mask:Nat)(owner:Array (Option Nat))(k:Nat)(Hf:Nat->Int):Prop where
 sz:owner.size=mask+1
 ix:∀(j i:Nat),owner[j]? = some (some i)->i<k
 ex:∀i:Nat,i<k->∃j:Nat,owner[j]? = some (some i)
 un:∀(j j' i:Nat),owner[j]? = some (some i)->owner[j']? = some (some i)->j=j'
 pt:∀(j i:Nat),owner[j]? = some (some i)->∃n,(advs mask n (adp mask (Hf i))).j=j/\∀m,m<n->∃i':Nat,owner[(advs mask m (adp mask (Hf i))).j]? = some (some i')
section
variable {owner:Array (Option Nat)}{Hf:Nat->Int}
theorem MQ.free (O:MQ mask owner k Hf)(hk:k<=mask):∃y,y<=mask/\owner[y]? = some none:=by
 refine acb λhn=>?_;have V0:∀y,y<mask+1->∃i,owner[y]? = some (some i):=λy hy=>by
  have h1:y<owner.size:=by rw[O.sz];exact hy
  cases e:owner[y] with
  |none=>exact absurd ⟨y,by lia,by rw[aae h1,e]⟩ hn
  |some i=>exact⟨i,by rw[aae h1,e]⟩
 have g:∀y,∃i,y<mask+1->owner[y]? = some (some i):=λy=>by
  by_cases h:y<mask+1
  ·obtain⟨i,e⟩:=V0 y h;exact⟨i,λ_=>e⟩
  ·exact⟨0,λz=>absurd z h⟩
 let f:=λy=>Classical.choose (g y)
 have hf:∀y,y<mask+1->owner[y]? = some (some (f y)):=λy=>Classical.choose_spec (g y);have:=acr (l₁:=(ZU (mask+1)).map f) (l₂:=ZU k) (by
  unfold ae_;rw[abE];refine acm (λ{a b} ha hb xi e=>?_) ada;have h1:=hf a (Z6.mp ha);have h2:=hf b (Z6.mp hb);rw[e] at h1;exact xi (O.un _ _ _ h1 h2)) (λx hx=>by
  obtain⟨y,hy,rfl⟩:=ZO.mp hx;exact Z6.mpr (O.ix y _ (hf y (Z6.mp hy))))
 rw[ZF,aaa,aaa] at this;lia
theorem MQ.step (O:MQ mask owner k Hf)(hp:∃p,mask+1=2 ^ p)(hk:k<=mask):∃j,layClean.free mask owner (turns mask) (bits (Hf k) % (mask+1)) (bits (Hf k))=some j/\MQ mask (owner.setIfInBounds j (some k)) (k+1) Hf:=by
 obtain⟨y,hy,ho⟩:=O.free hk;obtain⟨p,hp⟩:=hp;have hi:bits (Hf k) % (mask+1)<=mask:=abX (ac0 _ (acK _));obtain⟨n,h1,h2⟩:=wu hp (i:=bits (Hf k) % (mask+1)) (q:=bits (Hf k)) hi (De _) hy;obtain⟨m,g1,g2,g3⟩:=wz O.sz n (turns mask) (adp mask (Hf k)) rfl rfl hi (by unfold turns;lia) (by
  show owner[(gg mask n (bits (Hf k) % (mask+1),bits (Hf k))).1]? = _;rw[h2];exact ho)
 refine⟨_,g1,?_⟩;have hj:(advs mask m (adp mask (Hf k))).j<owner.size:=(aaD.mp g2).1;generalize ej:(advs mask m (adp mask (Hf k))).j=j at *;have gt:∀x,(owner.setIfInBounds j (some k))[x]? = if x=j then some (some k) else owner[x]? := λx=>by
  rw[Array.getElem?_setIfInBounds];by_cases c:j=x
  ·rw[hZ c,hZ c.symm,hZ hj]
  ·rw[hV c,hV (λz=>c z.symm)]
 have JR:∀x:Nat,(∃i':Nat,owner[x]? = some (some i'))->∃i':Nat,(owner.setIfInBounds j (some k))[x]? = some (some i'):=λx h00=>by
  obtain⟨i',h⟩:=h00;rw[gt];split
  ·exact⟨k,rfl⟩
  ·exact⟨i',h⟩
 refine⟨by rw[Array.size_setIfInBounds];exact O.sz,λx i h=>?_,λi hi=>?_,λx x' i h h'=>?_,λx i h=>?_⟩
 ·rw[gt] at h;split at h
  ·cases h;lia
  ·have:=O.ix x i h;lia
 ·by_cases c:i=k
  ·exact⟨j,by rw[gt,hZ rfl,c]⟩
  ·obtain⟨x,h⟩:=O.ex i (by lia);refine⟨x,?_⟩;rw[gt,hV (λz=>by rw[z,g2] at h;cases h)];exact h
 ·rw[gt] at h h';by_cases c:x=j
  ·by_cases c':x'=j
   ·rw[c,c']
   ·rw[hZ c] at h;rw[hV c'] at h';cases h;have:=O.ix _ _ h';lia
  ·by_cases c':x'=j
   ·rw[hV c] at h;rw[hZ c'] at h';cases h';have:=O.ix _ _ h;lia
   ·rw[hV c] at h;rw[hV c'] at h';exact O.un _ _ _ h h'
 ·rw[gt] at h;split at h
  ·rename_i c;cases h;exact⟨m,by rw[ej,c],λa ha=>JR _ (g3 a ha)⟩
  ·obtain⟨n,h1,h2⟩:=O.pt x i h;exact⟨n,h1,λa ha=>JR _ (h2 a ha)⟩
end
def La (mask:Nat)(bE:Option (Array (Option Nat)×Nat))(h:Int):Option (Array (Option Nat)×Nat):=do
  let (owner,k) ←bE
  let j ←layClean.free mask owner (turns mask) (bits h % (mask+1)) (bits h)
  pure (owner.setIfInBounds j (some k),k+1)
theorem Dh {mask:Nat}{Hf:Nat->Int}(hp:∃p,mask+1=2 ^ p):∀(hs:List Int) (k:Nat) (owner:Array (Option Nat)),MQ mask owner k Hf->(∀i,i<hs.length->hs[i]? = some (Hf (k+i)))->k+hs.length<=mask->
  ∃owner',hs.foldl (La mask) (some (owner,k))=some (owner',k+hs.length)/\MQ mask owner' (k+hs.length) Hf
 | [],k,owner,O,_,_=>⟨owner,rfl,O⟩
 |h::hs,k,owner,O,he,hl=>by
  have e0:h=Hf k:=by have:=he 0 (by simp);simpa using this
  rw[Z0] at hl;obtain⟨j,g1,g2⟩:=O.step hp (by lia);obtain⟨owner',f1,f2⟩:=Dh hp hs (k+1) _ g2 (λi hi=>by
   have:=he (i+1) (by rw[Z0];lia);rw[aaR] at this;rw[this];congr 2;lia) (by lia)
  refine⟨owner',?_,?_⟩
  ·rw[adE,show La mask (some (owner,k)) h=some (owner.setIfInBounds j (some k),k+1) by unfold La;rw[e0];simp[g1],f1,Z0];congr 2;lia
  ·rw[Z0,show k+(hs.length+1)=k+1+hs.length by lia];exact f2
theorem Lb (mask:Nat)(Hf:Nat->Int):MQ mask (Array.replicate (mask+1) none) 0 Hf:=by
 have no:∀(j i:Nat),(Array.replicate (mask+1) (none:Option Nat))[j]? ≠ some (some i):=λj i h=>by
  rw[Array.getElem?_replicate] at h;split at h<;>cases h
 exact⟨by simp,λj i h=>absurd h (no j i),λi h=>absurd h (Nat.not_lt_zero _),λj _ i h=>absurd h (no j i),λj i h=>absurd h (no j i)⟩
theorem jU {α β:Type}{f:α->Option β}:∀{l:List α},(∀x∈l,∃y,f x=some y)->∀n:Nat,(l.filterMap f)[n]? = (l[n]?).bind f
 | [],_,n=>by simp
 |x::l,h,n=>by
  obtain⟨y,hy⟩:=h x ZG;rw[ae2 hy];cases n with
  |zero=>simp[hy]
  |succ n=>simpa using jU (λz hz=>h z (ZK _ hz)) n
theorem mY {α β:Type}{f:α->Option β}:∀{l:List α},(∀x∈l,∃y,f x=some y)->(l.filterMap f).length=l.length
 | [],_=>rfl
 |x::l,h=>by
  obtain⟨y,hy⟩:=h x ZG;rw[ae2 hy,Z0,Z0,mY λz hz=>h z (ZK _ hz)]
variable {V:Type}
theorem xA {finger moves:Nat}{led plain:Bool}{es:Array (Int×V)}(hp:∃p,mask+1=2 ^ p)(hl:es.size<=mask):∃(t:ac_) (order:Array Nat) (C:Nat->Option (Int×V)),laid mask finger moves led plain (es.map (·.1))=some (t,order)/\
  Dd t (order.filterMap (es[·]?)) C/\MP mask (adp mask) C/\(order.filterMap (es[·]?)).size=es.size/\t.mask=mask/\t.finger=finger/\t.moves=moves/\t.led=led/\t.plain=plain/\
  (order.filterMap (es[·]?)).toList.Perm es.toList:=by
 obtain⟨owner,f1,O⟩:=Dh (Hf:=λi=>(es[i]?.map (·.1)).getD 0) hp (es.map (·.1)).toList 0 _ (Lb mask _) (λi hi=>by
  have Oc:i<es.size:=by simpa using hi
  simp[Oc]) (by simpa using hl)
 rw[abd,aao,Array.size_map] at f1 O;have lc:layClean mask (es.map (·.1))=some owner:=by
  unfold layClean;rw[←Array.foldl_toList];show ((es.map (·.1)).toList.foldl (La mask) (some (Array.replicate (mask+1) none,0))).map (·.1)=some owner;rw[f1];rfl
 let live:=(ZU (mask+1)).filterMap λj=>(owner.getD j none).map (j,·)
 have gd:∀j i,owner.getD j none=some i↔owner[j]? = some (some i):=λj i=>by
  by_cases h:j<owner.size
  ·simp[adU,h]
  ·simp[adU,h]
 have ml:∀j i,(j,i)∈live↔owner[j]? = some (some i):=λj i=>by
  show (j,i)∈List.filterMap _ _↔_;rw[aeD];constructor
  ·rintro⟨a,_,h⟩;cases e:owner.getD a none with
   |none=>rw[e] at h;cases h
   |some x=>rw[e] at h;cases h;exact (gd _ _).mp e
  ·intro h;refine⟨j,Z6.mpr ?_,by rw[(gd j i).mpr h];rfl⟩;have:=(aaD.mp h).1;rw[O.sz] at this;exact this
 have pw:live.Pairwise (λa b=>a.1<b.1/\a.2≠b.2):=by
  show List.Pairwise _ (List.filterMap _ _);rw[List.pairwise_filterMap];refine List.pairwise_lt_range.imp λ{a b} xi x hx y hy=>?_;cases e:owner.getD a none with
  |none=>rw[e] at hx;cases hx
  |some i=>cases e':owner.getD b none with
   |none=>rw[e'] at hy;cases hy
   |some i'=>
    rw[e] at hx;rw[e'] at hy;cases hx;cases hy;refine⟨xi,λz=>?_⟩;dsimp only at z;subst z;have:=O.un _ _ _ ((gd _ _).mp e) ((gd _ _).mp e');lia
 have Xh:(live.map (·.2)).Perm (ZU es.size):=by
  have nd:(live.map (·.2)).Nodup:=by
   unfold ae_;rw[abE];exact pw.imp λh=>h.2
  exact (aeA nd ada).mpr λi=>by
   rw[ZO,Z6];constructor
   ·rintro⟨⟨j,i'⟩,h,rfl⟩;exact O.ix j i' ((ml j i').mp h)
   ·intro h;obtain⟨j,e⟩:=O.ex i h;exact⟨(j,i),(ml j i).mpr e,rfl⟩
 have len:live.length=es.size:=by
  have:=Xh.length_eq
  rwa [ZF,aaa] at this
 have Yi:∀x∈live,∃y,es[x.2]? = some y:=λx hx=>by
  have:=O.ix x.1 x.2 ((ml x.1 x.2).mp hx);exact⟨es[x.2],aae this⟩
 have T2:∀x∈live.map (·.2),∃y,es[x]? = some y:=λx hx=>by
  obtain⟨z,hz,rfl⟩:=ZO.mp hx;exact Yi z hz
 have V1:((live.map (·.2)).toArray.filterMap (es[·]?)).toList=(live.map (·.2)).filterMap (es[·]?):=by simp
 have Xi:∀n:Nat,((live.map (·.2)).toArray.filterMap (es[·]?))[n]? = (live[n]?).bind λx=>es[x.2]? := λn=>by
  rw[←aaj,V1,jU T2,ZT];cases live[n]? <;> rfl
 have V2:∀n:Nat,(live.map (·.1)).toArray[n]? = (live[n]?).map (·.1):=λn=>by
  rw[←aaj];simp
 let C:Nat->Option (Int×V):=λj=>(owner.getD j none).bind (es[·]?)
 have hC:∀j e,C j=some e↔∃i,owner[j]? = some (some i)/\es[i]? = some e:=λj e=>by
  show (owner.getD j none).bind _=some e↔_;cases q:owner.getD j none with
  |none=>
   refine⟨λh=>(by cases h),fun⟨i,h,_⟩=>?_⟩;rw[(gd j i).mpr h] at q;cases q
  |some i=>
   constructor
   ·intro h;exact⟨i,(gd j i).mp q,h⟩
   ·rintro⟨i',h,h2⟩;rw[(gd j i').mpr h] at q;cases q;exact h2
 have J5:((live.map (·.2)).toArray.filterMap (es[·]?)).size=es.size:=by
  rw[←aao,V1,mY T2,ZF,len]
 refine⟨{mask,place:=(live.map (·.1)).toArray,dummies:=#[],finger,led,moves,plain},(live.map (·.2)).toArray,C,?_,⟨?_,?_,rfl,hp,?_,?_,?_⟩,?_,J5,rfl,rfl,rfl,rfl,rfl,?_⟩
 ·unfold laid;rw[lc];rfl
 ·intro i j hi hj lt;have g:=pw;rw[aeQ] at g;have yE:i<live.length:=by simpa using hi
  have Yj:j<live.length:=by simpa using hj
  have:=(g i j yE Yj lt).1;simpa using this
 ·show ((live.map (·.1)).toArray).size=_;rw[J5];simp[len]
 ·rw[J5];exact hl
 ·intro i j h;have h:(live.map (·.1)).toArray[i]? = some j:=h;rw[V2] at h;cases e:live[i]? with
  |none=>rw[e] at h;cases h
  |some x=>
   rw[e] at h;cases h;have:=(aaD.mp ((ml x.1 x.2).mp (aa1 e))).1;rw[O.sz] at this;exact abX this
 ·intro j e;show C j=some e↔∃i:Nat,(live.map (·.1)).toArray[i]? = some j/\_;rw[hC];constructor
  ·rintro⟨i,h1,h2⟩;obtain⟨n,hn⟩:=List.mem_iff_getElem?.mp ((ml j i).mpr h1);exact⟨n,by rw[V2,hn];rfl,by rw[Xi,hn];exact h2⟩
  ·rintro⟨n,h1,h2⟩;rw[V2] at h1;rw[Xi] at h2;cases q:live[n]? with
   |none=>rw[q] at h1;cases h1
   |some x=>
    rw[q] at h1 h2;cases h1;exact⟨x.2,(ml x.1 x.2).mp (aa1 q),h2⟩
 ·intro j e h;obtain⟨i,h1,h2⟩:=(hC j e).mp h;obtain⟨n,g1,g2⟩:=O.pt j i h1;have hf:(es[i]?.map (·.1)).getD 0=e.1:=by rw[h2];rfl
  rw[hf] at g1 g2;refine⟨n,g1,λm hm=>?_⟩;obtain⟨i',h3⟩:=g2 m hm;have:=O.ix _ _ h3;exact⟨es[i'],(hC _ _).mpr ⟨i',h3,aae this⟩⟩
 ·rw[V1];refine (Xh.filterMap _).trans ?_;have e:(ZU es.size).filterMap (es[·]?)=es.toList:=by
   refine acZ λn=>?_;rw[jU (λx hx=>⟨es[x]'(Z6.mp hx),aae (Z6.mp hx)⟩)];by_cases h:n<es.size
   ·rw[aaT h];simp
   ·rw[aaY.mpr (by simpa using h),aaY.mpr (by simpa using h)];rfl
  rw[e]
end Hc.Sx
namespace Hc.Sx
open PySem.SetTable
theorem zC:∀(fuel size n:Nat),(∃p,size=2 ^ p)->8<=size->(size<=8\/size<=2*n)->n<size*2 ^ fuel->(∃p,sizeAbove.go n fuel size=2 ^ p)/\n<sizeAbove.go n fuel size/\8<=sizeAbove.go n fuel size/\(sizeAbove.go n fuel size<=8\/sizeAbove.go n fuel size<=2*n)
 |0,size,n,hp,h8,hb,hn=>by
  unfold sizeAbove.go;exact⟨hp,by simpa using hn,h8,hb⟩
 |fuel+1,size,n,⟨p,hp⟩,h8,hb,hn=>by
  unfold sizeAbove.go;by_cases c:size<=n
  ·rw[hZ c];exact zC fuel (size*2) n ⟨p+1,by rw[hp,ab_]⟩ (by lia) (.inr (by lia)) (by rw[ab_,aa6 (2 ^ fuel) 2,←aba] at hn;exact hn)
  ·rw[hV c];exact⟨⟨p,hp⟩,by lia,h8,hb⟩
theorem Ha (h:n<2 ^ 60):(∃p,sizeAbove n=2 ^ p)/\n<sizeAbove n/\8<=sizeAbove n/\(sizeAbove n<=8\/sizeAbove n<=2*n):=
 zC 64 8 n ⟨3,rfl⟩ (ZS _) (.inl (ZS _)) (acG h (by decide))
structure qB {prog:acC}{w:acs}{K:Type}[DecidableEq K](knd:adC prog w K):Prop where
 cls:∀{A:aaC} {E:ZR->Z5->Prop} {s:Z5} {k:K} {a:Z_} {Q:Bool->Z5->Prop},knd.is s.heap k a->Q false s->aac (aan prog w) A (ofAClassStatement 8 (.ref a)) Q E s
 byv:∀{A:aaC} {E:ZR->Z5->Prop} {s:Z5} {k:K} {a:Z_} {Q:Bool->Z5->Prop},knd.is s.heap k a->Q true s->aac (aan prog w) A (hashByValue 8 (.ref a)) Q E s
 kept:∀{h h':acz} {k:K} {a d:Z_} {o:Obj} {es:Array (Int×ZR)} {ep:Nat} {t:ac_},knd.is h k a->h.get? d=some o->o.data=.set es ep t->aa0 d h h'->knd.is h' k a
section
variable {K:Type}[DecidableEq K]{knd:adC prog w K}
def UA (knd:adC prog w K)(x:K×Z_):Int×ZR:=(knd.hash x.1,.ref x.2)
structure HS (knd:adC prog w K)(h:acz)(xs:List (K×Z_))(es:Array (Int×ZR))(t:ac_)(C:Nat->Option (Int×ZR)):Prop where
 tab:Dd t es C
 pth:MP t.mask (adp t.mask) C
 pl:t.plain=true
 lo:7<=t.mask
 hi:t.mask<=8191
 few:es.size*5<t.mask*3
 per:es.toList.Perm (xs.map (UA knd))
 keys:∀x∈xs,knd.is h x.1 x.2
 nd:(xs.map (·.1)).Nodup
def nG (knd:adC prog w K)(byText:Bool)(h:acz)(a:Z_)(xs:List (K×Z_)):Prop:=
 ∃o es ep t C,h.get? a=some o/\o.ExactSet/\o.data=.set es ep t/\HS knd h xs es t C/\(byText=true\/t.led=true)
variable {A:aaC}
theorem HS.fits {xs:List (K×Z_)}{es:Array (Int×ZR)}(S:HS knd h xs es t C):t.fits es.size=true:=by
 unfold SetTable.fits SetTable.fill;rw[S.tab.sz,S.tab.dum];simp;exact S.tab.room
theorem HS.stays {xs:List (K×Z_)}{es:Array (Int×ZR)}(S:HS knd h xs es t C):t.gaveWay=false:=by
 unfold SetTable.gaveWay;obtain⟨p,hp⟩:=S.tab.pow;have:=S.lo;cases p with
 |zero=>simp at hp;lia
 |succ p=>rw[ab_] at hp;simp;lia
theorem HS.entry {xs:List (K×Z_)}{es:Array (Int×ZR)}(S:HS knd h xs es t C){e:Int×ZR}(he:e∈es.toList):∃k b,(k,b)∈xs/\e=(knd.hash k,.ref b)/\knd.is h k b:=by
 obtain⟨⟨k,b⟩,hx,rfl⟩:=ZO.mp (S.per.mem_iff.mp he);exact⟨k,b,hx,rfl,S.keys _ hx⟩
theorem HS.at {xs:List (K×Z_)}{es:Array (Int×ZR)}(S:HS knd h xs es t C){e:Int×ZR}(hc:C j=some e):∃k b,(k,b)∈xs/\e=(knd.hash k,.ref b)/\knd.is h k b:=by
 obtain⟨i,_,h2⟩:=(S.tab.con j e).mp hc;exact S.entry (by have:=Array.mem_of_getElem? h2;simpa using this)
theorem HS.has {xs:List (K×Z_)}{es:Array (Int×ZR)}(S:HS knd h xs es t C){k:K}(hx:(k,b)∈xs):∃j,C j=some (knd.hash k,.ref b):=by
 have:UA knd (k,b)∈es.toList:=S.per.mem_iff.mpr (ZO.mpr ⟨_,hx,rfl⟩);obtain⟨i,hi⟩:=List.mem_iff_getElem?.mp this;rw[aaj] at hi;have h2:i<t.place.size:=by rw[S.tab.sz];exact (aaD.mp hi).1
 exact⟨t.place[i],(S.tab.con _ _).mpr ⟨i,aae h2,hi⟩⟩
theorem Fe (sk:qB knd){k:K}(hk:knd.is s.heap k b){Q:Bool->Z5->Prop}(l:List ZR)(hl:∀y∈l,∃k' b',y=.ref b'/\knd.is s.heap k' b')(h:Q false s):aac (aan prog w) A (searchCouldBeSeen (.ref b) l) Q E s:=by
 unfold searchCouldBeSeen;refine ZE ?_;refine wpAny_forIn_list _ (λrest r s'=>r.1=none/\s'=s/\∀y∈rest,∃k' b',y=.ref b'/\knd.is s.heap k' b') _ ?_ ?_ _ _ ⟨rfl,rfl,hl⟩
 ·rintro y rest r s' ⟨hr,rfl,hy⟩;obtain⟨k',b',rfl,Od⟩:=hy y ZG;have next:∀z∈rest,∃k' b',z=Value.ref b'/\knd.is s'.heap k' b':=λz hz=>hy z (ZK _ hz)
  dsimp only;split
  ·exact ZJ ⟨rfl,rfl,next⟩
  ·refine ZE (knd.quiet hk ?_);simp only[aaz,aaq,if_false];refine ZE (knd.quiet Od ?_);simp only[aaz,aaq,if_false];refine ZE (sk.cls hk ?_);simp only[aaq,if_false];refine ZE (sk.cls Od ?_);simp only[aaq,if_false];exact ZJ ⟨rfl,rfl,next⟩
 ·rintro⟨r1,r2⟩ s' ⟨hr,rfl,_⟩;simp only at hr;subst hr;exact ZJ h
end
end Hc.Sx
namespace Hc.Sx
open PySem.SetTable
section
variable {K:Type}[DecidableEq K]{knd:adC prog w K}{A:aaC}
variable {o:Obj}{es:Array (Int×ZR)}{xs:List (K×Z_)}{k:K}
abbrev Di (t:ac_)(h:Int)(n:Nat):Nat:=(advs t.mask n (adp t.mask h)).j
theorem qC (sk:qB knd)(hr:knd.room A)(hk:knd.is s.heap k b)(ho:s.heap.get? a=some o)(hd:o.data=.set es ep t)(S:HS knd s.heap xs es t C){Q:SetFound->Z5->Prop}{N:Nat}(hN:C (Di t (knd.hash k) N)=none)
  (yF:k∈xs.map (·.1)->Q (.there none) s)
  (vh:k∉xs.map (·.1)->∀n,(∀m,m<n->∃e,C (Di t (knd.hash k) m)=some e)->C (Di t (knd.hash k) n)=none->Q (.free (Di t (knd.hash k) n) false) s) :
  ∀(fuel n:Nat) (stand:Option Probe),stand.getD (t.probeStart (knd.hash k))=advs t.mask n (adp t.mask (knd.hash k))->N<n+fuel->(∀m,m<n->∃k' b',C (Di t (knd.hash k) m)=some (knd.hash k',.ref b')/\(k',b')∈xs/\k'≠k)->
   aac (aan prog w) A (setSearchFrom a (.ref b) (knd.hash k) true fuel stand) Q E s
 |0,n,stand,hs,hf,hb=>by
  obtain⟨k',b',e,_⟩:=hb N (by lia);rw[e] at hN;cases hN
 |fuel+1,n,stand,hs,hf,hb=>by
  unfold setSearchFrom;refine ZE (aaZ ho hd S.fits ?_);dsimp only;rw[S.stays];simp only[aaq,if_false];obtain⟨m',g1,g2⟩:=BD S.tab (hashAt:=λi=>(es[i]?.map (·.1)).getD 0) (λi e h=>by show (es[i]?.map (·.1)).getD 0=e.1;rw[h];rfl) (knd.hash k) (lL.advs n (lL.start t (knd.hash k)));have pa:∀x,(advs t.mask x (advs t.mask n (t.probeStart (knd.hash k)))).j=Di t (knd.hash k) (n+x):=λx=>by rw[←jc];rfl
  have UO:∀m,m<n+m'->∃k' b',C (Di t (knd.hash k) m)=some (knd.hash k',.ref b')/\(k',b')∈xs/\k'≠k:=λm hm=>by
   rcases acL m n with z|z
   ·exact hb m z
   ·obtain⟨e,h1,h2⟩:=g1 (m-n) (by lia);rw[pa,show n+(m-n)=m by lia] at h1;obtain⟨k',b',hx,rfl,_⟩:=S.at h1;exact⟨k',b',h1,hx,λz=>h2 (by rw[z])⟩
  have pe:t.probe (λi=>(es[i]?.map (·.1)).getD 0) (knd.hash k) (stand.getD (t.probeStart (knd.hash k)))=t.probe (λi=>(es[i]?.map (·.1)).getD 0) (knd.hash k) (advs t.mask n (t.probeStart (knd.hash k))):=by rw[hs];rfl
  rcases g2 with⟨c1,c2⟩|⟨e,i,c1,c2,c3,c4,c5⟩
  ·
   have V3:=pe.trans c2;rw[pa] at c1 V3;have nx:k∉xs.map (·.1):=λhm=>by
    obtain⟨⟨k0,b0⟩,hx,rfl⟩:=ZO.mp hm;obtain⟨j,hj⟩:=S.has hx;obtain⟨m,hm,hmj⟩:=S.pth.met c1 hj rfl;obtain⟨k',b',h1,h2,h3⟩:=UO m hm;have h1:C j=some (knd.hash k',.ref b'):=by rw[←hmj];exact h1
    rw[hj] at h1;have eb:b0=b':=by
     have:=(Prod.mk.inj (aab h1)).2;injection this
    subst eb;exact h3 (knd.inj (S.keys _ h2) (S.keys _ hx))
   have fin:=vh nx (n+m') (λm hm=>let ⟨k',b',h1,_⟩:=UO m hm;⟨_,h1⟩) c1;split
   ·rename_i met hq;have e:=(hq.symm.trans V3);cases e;exact ZJ fin
   ·rename_i hq;exact absurd V3 (by intro z;exact hq _ z)
  ·
   have J6:=pe.trans c5;rw[pa] at c1 c4 J6;rw[←jc] at J6;obtain⟨k',b',hx,rfl,Od⟩:=S.at c1;have lN:n+m'<N:=by
    rcases adV N (n+m') with z|z|z
    ·obtain⟨_,_,e,_⟩:=UO N z;rw[e] at hN;cases hN
    ·rw[z,c1] at hN;cases hN
    ·exact z
   have body:∀R:Sem SetFound,R=(do
     let some (_,y):=es[i]? | unsupported "internal:set-entry"
     let equal ←adi [y] (eqBool y (.ref b))
     let (JS,_,t') ←setState a
     if true&&equal then return .there none
     let some same:=t'.sameMemory t.moves t.mask|unsupported "set.changed-during-lookup:is-the-new-block-at-the-old-address"
     let Ey ←match (if same then t'.slot (Di t (knd.hash k) (n+m')) else .empty) with
      | .live i'=>match JS[i']? with
       |some (_,y')=>do pure (if ←isSame y' y then some i' else none)
       |none=>pure none
      |_=>pure none
     match Ey with
     |none=>rule "set.search.anew";setSearchFrom a (.ref b) (knd.hash k) true fuel none
     |some i'=>if equal then return .there (some i') else setSearchFrom a (.ref b) (knd.hash k) true fuel (some (advs t.mask (n+(m'+1)) (t.probeStart (knd.hash k)))))->aac (aan prog w) A R Q E s:=λR hR=>by
    subst hR;rw[c3];dsimp only;refine ZE (aa9 (knd.eqBool hr Od hk ?_));refine ZE (aaZ ho hd S.fits ?_);dsimp only;by_cases q:k'=k
    ·rw[hG q];simp only[Bool.and_self,if_true];subst q;exact ZJ (yF (ZO.mpr ⟨_,hx,rfl⟩))
    ·rw[hJ q];simp only[ac5,aaq,if_false];have sm:t.sameMemory t.moves t.mask=some true:=by unfold SetTable.sameMemory;simp
     rw[sm];dsimp only;obtain⟨i2,l1,l2,l3⟩:=S.tab.live c1;rw[l1];simp only[if_true];rw[l2];dsimp only;refine ZE (wpAny_isSame_ref_self ?_);simp only[if_true];refine ZE (ZJ ?_);dsimp only;refine qC sk hr hk ho hd S hN yF vh fuel (n+(m'+1)) _ rfl (by lia) λm hm=>?_;rcases acL m (n+m') with z|z
     ·exact UO m z
     ·have:m=n+m':=by lia
      subst this;exact⟨k',b',c1,hx,q⟩
   split
   ·rename_i met hq;have e:=(hq.symm.trans J6);cases e;dsimp only;split
    ·refine ZE (Fe sk hk _ (λy hy=>?_) ?_)
     ·obtain⟨e,he,rfl⟩:=ZO.mp hy;have he:e∈es.toList:=by
       have:e∈(es.filter λx=>x.1==knd.hash k):=by simpa using he
       have:=(Array.mem_filter.mp this).1;simpa using this
      obtain⟨k2,b2,_,rfl,h2⟩:=S.entry he;exact⟨k2,b2,rfl,h2⟩
     ·simp only[aaq,if_false];exact body _ rfl
    ·exact body _ rfl
   ·rename_i hq;exact absurd J6 (by intro z;exact hq _ z)
theorem Ff (sk:qB knd)(hr:knd.room A)(hk:knd.is s.heap k b)(ho:s.heap.get? a=some o)(hd:o.data=.set es ep t)(S:HS knd s.heap xs es t C){Q:SetFound->Z5->Prop}
  (yF:k∈xs.map (·.1)->Q (.there none) s)
  (vh:k∉xs.map (·.1)->∀n,(∀m,m<n->∃e,C (Di t (knd.hash k) m)=some e)->C (Di t (knd.hash k) n)=none->Q (.free (Di t (knd.hash k) n) false) s) :
  aac (aan prog w) A (setSearch a (.ref b) (knd.hash k) true) Q E s:=by
 obtain⟨y,hy,hc⟩:=S.tab.free;obtain⟨p,hp⟩:=S.tab.pow;obtain⟨N,h1,h2⟩:=wy hp (lL.start t (knd.hash k)) hy;unfold setSearch;refine qC sk hr hk ho hd S (N:=N) (by show C (advs t.mask N (t.probeStart (knd.hash k))).j=none;rw[h2];exact hc) yF vh 100000 0 none rfl ?_ λm hm=>by lia
 have:=S.hi;unfold turns at h1;lia
end
end Hc.Sx
namespace Hc.Sx
open PySem.SetTable
theorem mZ {α:Type}(xs:Array α)(p:Nat)(x:α):(insertAt xs p x).toList.Perm (xs.toList++[x]):=by
 rw[jT];have h:(x::xs.toList.drop p).Perm (xs.toList.drop p++[x]):=(List.perm_append_singleton x _).symm;refine (ad6 _ h).trans ?_;rw[←abD,ad7]
section
variable {K:Type}[DecidableEq K]{knd:adC prog w K}{A:aaC}
variable {o:Obj}{es:Array (Int×ZR)}{xs:List (K×Z_)}{k:K}{byText:Bool}
def m5 (xs:List (K×Z_))(k:K)(b:Z_):List (K×Z_):=if k∈xs.map (·.1) then xs else xs++[(k,b)]
theorem stored (ho:h.get? a=some o)(hd:o.data=.set es ep t)(JS:Array (Int×ZR))(t':ac_) :
  (h.update a (ae3 JS t')).get? a=some {o with data:=.set JS (ep+1) t'}:=by
 have:=abL (ae3 JS t') ho (by rw[putSet_of JS t' hd];rfl);rw[putSet_of JS t' hd] at this;exact this
theorem Hb {h:acz}(sk:qB knd)(ho:s.heap.get? a=some o)(Oe:o.ExactSet)(hd:o.data=.set es ep t)(tab:Dd t es C)(pl:t.plain=true)(per:es.toList.Perm (xs.map (UA knd)))(keys:∀x∈xs,knd.is s.heap x.1 x.2)(nd:(xs.map (·.1)).Nodup)(led:byText=true\/t.led=true)(hn:es.size=n)(Zm:1<=n)(Xj:n<=2047){Q:Unit->Z5->Prop}(q:∀h',aa0 a s.heap h'->nG knd byText h' a xs->Q () {s with heap:=h'}) :
  aac (aan prog w) A (setRelay a (grown n)) Q E s:=by
 have hw:grown n=n*4:=by unfold grown;rw[hV (by lia)]
 have ab:=Ha (n:=grown n) (by rw[hw];exact abw (show n*4<=8192 by lia) (by decide));have sz:ZL=16777216:=rfl;generalize eS:sizeAbove (grown n)=sA at ab;obtain⟨⟨p,hp⟩,a1,a2,a3⟩:=ab;have m1:sA-1+1=2 ^ p:=by lia
 have m8:sA<=8192:=by
  have Zn:p<14:=by
   refine acb λz=>?_;have Zo:(2:Nat) ^ 14<=2 ^ p:=Nat.pow_le_pow_right (by decide) (by lia);rw[hw] at a3;lia
  have Zq:(2:Nat) ^ p<=2 ^ 13:=Nat.pow_le_pow_right (by decide) (by lia);lia
 have Yk:t.fits es.size=true:=by
  unfold SetTable.fits SetTable.fill;rw[tab.sz,tab.dum];simp;exact tab.room
 obtain⟨t',order,C',h1,T',P',hsz,e1,e2,e3,e4,e5,JW⟩:=xA (mask:=sA-1) (finger:=t.finger) (moves:=t.movedTo (sA-1)) (led:=t.led) (plain:=t.plain) (es:=es) ⟨p,m1⟩ (by rw[hw] at a1;lia);unfold setRelay;refine ZE (aaZ ho hd Yk ?_);dsimp only;rw[eS,hV (by rw[hw] at a3;lia)];have hr:t.relaid (es.map (·.1)) (grown n)=some (t',order):=by unfold SetTable.relaid;rw[eS];exact h1
 have J5:(order.filterMap (es[·]?)).size<=ZL:=by rw[hsz,hn];lia
 have A6:¬(((order.filterMap (es[·]?)).size != es.size)=true):=by rw[hsz];simp
 refine ZE (acM (a:=(order.filterMap (es[·]?),t')) (by rw[hr];exact hV A6) ?_);refine wpAny_storeSet_of ho hd ?_ J5;have QL:=aaU s.heap a (ae3 (order.filterMap (es[·]?)) t');refine q _ QL ⟨_,_,_,t',C',stored ho hd _ _,Oe,rfl,⟨T',by rw[e1];exact P',by rw[e5];exact pl,by rw[e1];lia,by rw[e1];rw[hw] at a3;lia,by rw[hsz,e1,hn];rw[hw] at a1;lia,?_,λx hx=>sk.kept (keys x hx) ho hd QL,nd⟩,led.imp id λz=>by rw[e4];exact z⟩;exact JW.trans per
end
end Hc.Sx
namespace Hc.Sx
open PySem.SetTable
section
variable {K:Type}[DecidableEq K]{knd:adC prog w K}{A:aaC}
variable {xs:List (K×Z_)}{k:K}{byText:Bool}
theorem BE (b:Z_)(es:Array (Int×ZR)):byScan (.ref b) es=false:=by unfold byScan Value.scannable;simp
theorem Pg (sk:qB knd)(hr:knd.room A)(hk:knd.is s.heap k b)(hS:nG knd byText s.heap a xs)(hl:xs.length+1<=2047){Q:Bool->Z5->Prop}
  (q:∀h' r,aa0 a s.heap h'->nG knd byText h' a (m5 xs k b)->Q r {s with heap:=h'}):aac (aan prog w) A (setAddHashed a (.ref b) (knd.hash k)) Q E s:=by
 obtain⟨o,es,ep,t,C,ho,Oe,hd,S,led⟩:=hS;have Zr:es.size=xs.length:=by have:=S.per.length_eq;simpa using this
 unfold setAddHashed setAddHashedIn;refine aa9 (ZE (aaZ ho hd S.fits ?_));dsimp only;rw[BE];simp only[aaq,if_false];refine ZE (Ff sk hr hk ho hd S (λyG=>?_) λT3 n hb hc=>?_)
 ·dsimp only;refine ZJ ?_;have e:s={s with heap:=s.heap}:=by cases s;rfl
  rw[e];exact q s.heap false (Heap.SameBut.refl a s.heap) (by unfold m5;rw[hZ yG];exact⟨o,es,ep,t,C,ho,Oe,hd,S,led⟩)
 ·dsimp only;refine ZE (aaZ ho hd S.fits ?_);dsimp only;have few:=S.few;have lo:=S.lo;have jm:Di t (knd.hash k) n<=t.mask:=by
   obtain⟨p,hp⟩:=S.tab.pow;have:∀n,(advs t.mask n (adp t.mask (knd.hash k))).j+(advs t.mask n (adp t.mask (knd.hash k))).more<=t.mask:=by
    intro n
    induction n with
    |zero=>
     show bits (knd.hash k) % (t.mask+1)+(runEnd t.mask (bits (knd.hash k) % (t.mask+1))-bits (knd.hash k) % (t.mask+1))<=t.mask;have:bits (knd.hash k) % (t.mask+1)<t.mask+1:=ac0 _ (acK _);unfold runEnd;split<;>lia
    |succ n ih=>
     rw[wx];unfold adv;split
     ·dsimp only;lia
     ·dsimp only;have:(leap t.mask (advs t.mask n (adp t.mask (knd.hash k))).i (advs t.mask n (adp t.mask (knd.hash k))).perturb).1<t.mask+1:=ac0 _ (acK _);unfold runEnd;split<;>lia
   have:=this n;show (advs t.mask n (adp t.mask (knd.hash k))).j<=t.mask;lia
  obtain⟨T1,p1,p2,p3,p4,p5⟩:=S.tab.put (e:=(knd.hash k,Value.ref b)) jm hc (by lia);have P1:=MP.up S.pth (e:=(knd.hash k,Value.ref b)) hb hc;generalize et:(t.put (Di t (knd.hash k) n)).1=t1 at *;generalize ei:(t.put (Di t (knd.hash k) n)).2=ip at *;have J5:(insertAt es ip (knd.hash k,Value.ref b)).size=es.size+1:=by
   have:=(mZ es ip (knd.hash k,Value.ref b)).length_eq;simpa using this
  rw[hZ (by rw[p2];exact S.pl)];refine ZE (sk.byv hk ?_);simp only[if_true];have sl:ZL=16777216:=rfl;refine ZE (wpAny_storeSet_of ho hd ?_ (by rw[J5];lia));have QL:=aaU s.heap a (ae3 (insertAt es ip (knd.hash k,Value.ref b)) t1);have Xk:=stored ho hd (insertAt es ip (knd.hash k,Value.ref b)) t1;have Xl:m5 xs k b=xs++[(k,b)]:=by unfold m5;rw[hV T3]
  have T4:(insertAt es ip (knd.hash k,Value.ref b)).toList.Perm ((xs++[(k,b)]).map (UA knd)):=by
   rw[aad];exact (mZ _ _ _).trans (List.Perm.append_right _ S.per)
  have Of:∀x∈xs++[(k,b)],knd.is (s.heap.update a (ae3 (insertAt es ip (knd.hash k,Value.ref b)) t1)) x.1 x.2:=λx hx=>by
   rcases aam.mp hx with z|z
   ·exact sk.kept (S.keys x z) ho hd QL
   ·rw[Z1.mp z];exact sk.kept hk ho hd QL
  have UP:((xs++[(k,b)]).map (·.1)).Nodup:=by
   rw[aad,aa_];exact⟨S.nd,by simp,λx hx y hy e=>by
    simp at hy;subst e hy;exact T3 hx⟩
  have T5:byText=true\/t1.led=true:=led.imp id λz=>by rw[p3];exact z
  have T6:t1.fill=es.size+1:=by
   unfold SetTable.fill;rw[T1.sz,T1.dum,J5];rfl
  cases tf:t1.tooFull with
  |false=>
   simp only[abu,ac5,aaq,if_false];refine ZJ (q _ true QL ?_);rw[Xl];refine⟨_,_,_,t1,_,Xk,Oe,rfl,⟨T1,by rw[p1];exact P1,by rw[p2];exact S.pl,by rw[p1];exact lo,by rw[p1];exact S.hi,?_,T4,Of,UP⟩,T5⟩;unfold SetTable.tooFull at tf;rw[T6] at tf;rw[J5];simpa using tf
  |true=>
   simp only[abu,Bool.and_self,if_true];refine ZE (Hb (h:=s.heap) (s:={s with heap:=s.heap.update a (ae3 (insertAt es ip (knd.hash k,Value.ref b)) t1)}) sk Xk Oe rfl T1 (by rw[p2];exact S.pl) T4 Of UP T5 J5 (by lia) (by lia) λh' V4 H'=>?_);refine ZJ (q h' true (QL.trans V4) ?_);rw[Xl];exact H'
theorem Hd {led:Bool}(hl:byText=true\/led=true)(hg:h.get? a=some {cls:=.type "set",dict:=none,data:=.set #[] 0 (.fresh 0 0 led)}):nG knd byText h a []:=by
 refine⟨_,#[],0,.fresh 0 0 led,λ_=>none,hg,⟨rfl,rfl,rfl⟩,rfl,⟨⟨λi j hi=>absurd hi (Nat.not_lt_zero _),rfl,rfl,⟨3,rfl⟩,abc _,λi j h=>?_,λj e=>⟨λh=>(by cases h),fun⟨i,h,_⟩=>?_⟩⟩,λj e h=>(by cases h),rfl,ZS _,(show (7:Nat)<=8191 by decide),(show 0*5<7*3 by decide),abj _,λx hx=>(by cases hx),abi⟩,hl⟩
 ·have h:(#[]:Array Nat)[i]? = some j:=h;simp at h
 ·have h:(#[]:Array Nat)[i]? = some j:=h;simp at h
end
end Hc.Sx
namespace Hc.Sx
open PySem.SetTable
section
variable {K:Type}[DecidableEq K]{knd:adC prog w K}{A:aaC}
variable {xs:List (K×Z_)}{k:K}{byText:Bool}
theorem nG.keep (H:nG knd byText h a xs)(e:∀o,h.get? a=some o->h'.get? a=some o)(hk:∀x∈xs,knd.is h' x.1 x.2):nG knd byText h' a xs:=by
 obtain⟨o,es,ep,t,C,ho,Oe,hd,S,led⟩:=H;exact⟨o,es,ep,t,C,e o ho,Oe,hd,⟨S.tab,S.pth,S.pl,S.lo,S.hi,S.few,S.per,hk,S.nd⟩,led⟩
theorem nG.setAt (H:nG knd byText h a xs):∃o es ep t,h.get? a=some o/\o.data=.set es ep t:=by
 obtain⟨o,es,ep,t,C,ho,Oe,hd,S,led⟩:=H;exact⟨o,es,ep,t,ho,hd⟩
def fq (val:Nat->K×Z_):Nat->List (K×Z_)
 |0=>[]
 |i+1=>m5 (fq val i) (val i).1 (val i).2
theorem zD (val:Nat->K×Z_){i:Nat}:∀{n:Nat},i<=n->(fq val i).length<=(fq val n).length
 |0,h=>by rw[Nat.le_zero.mp h];exact ZS _
 |n+1,h=>by
  by_cases e:i=n+1
  ·rw[e];exact ZS _
  ·refine aaP (zD val (n:=n) (by lia)) ?_;show (fq val n).length<=(m5 _ _ _).length;unfold m5;split
   ·exact ZS _
   ·rw[Z3];lia
theorem mB (val:Nat->K×Z_):∀(i:Nat) (x:K×Z_),x∈fq val i->∃j,j<i/\x=val j
 |0,x,h=>by cases h
 |i+1,x,h=>by
  unfold fq m5 at h;split at h
  ·obtain⟨j,h1,h2⟩:=mB val i x h;exact⟨j,by lia,h2⟩
  ·rcases aam.mp h with z|z
   ·obtain⟨j,h1,h2⟩:=mB val i x z;exact⟨j,by lia,h2⟩
   ·exact⟨i,by lia,Z1.mp z⟩
variable {R:Result->Z5->Prop}{I:Z_}{wr:List Z_}{G:Array GenState->Array GenState->Prop}{P:Nat->ZR->Prop}{St:Nat->Z5->Prop}
theorem Fg (sk:qB knd)(hr:knd.room A.in1)(W:WalksS prog w A.in1 I fp wr G n P St)(S:Z_)(Xm:S∉fp)(val:Nat->K×Z_)(V5:∀i v,P i v->v=.ref (val i).2)(hn:(fq val n).length+1<=2047)
  (mv:∀i (s s':Z5),i<=n->St i s->Moved wr G s s'->(∀j,j<n->knd.is s.heap (val j).1 (val j).2)->∀j,j<n->knd.is s'.heap (val j).1 (val j).2) :
  ∀(d i:Nat) (s:Z5),n-i=d->i<=n->St i s->(∀j,j<n->knd.is s.heap (val j).1 (val j).2)->nG knd byText s.heap S (fq val i)->
   (∀s',Moved (S::wr) G s s'->(∀j,j<n->knd.is s'.heap (val j).1 (val j).2)->nG knd byText s'.heap S (fq val n)->R (.ok (.ret .none)) s')->
   codeAny (aan prog w) A (.builtin "set.update.loop" ⟨[.ref S,.ref I],[]⟩) R s:=by
 have nS:S∉wr:=λh=>Xm (W.sub _ h);have up:∀b∈wr,b∈S::wr:=λb hb=>ZK _ hb;have Ey:∀i (s s':Z5),i<=n->St i s->Moved wr G s s'->(∀j,j<n->knd.is s.heap (val j).1 (val j).2)->nG knd byText s.heap S (fq val i)->nG knd byText s'.heap S (fq val i):=λi s s' hi st m hk H=>
  H.keep (λo e=>m.heap S o nS e) λx hx=>by
   obtain⟨j,h1,rfl⟩:=mB val i x hx;exact mv i s s' hi st m hk j (by lia)
 intro d
 induction d with
 |zero=>
  intro i s hd hi st hk H q;obtain rfl:i=n:=by lia
  refine ab0 F.entry_set_update_loop ?_;rw[abz adF _];show aac _ A.in1 (adm (Value.ref I) >>= _) _ _ s;refine ZE (W.done s _ _ st λs' m=>?_);exact ZJ (q s' (m.mono up) (mv i s s' hi st m hk) (Ey i s s' hi st m hk H))
 |succ d ih=>
  intro i s hd hi st hk H q;have lt:i<n:=by lia
  refine ab0 F.entry_set_update_loop ?_;rw[abz adF _];show aac _ A.in1 (adm (Value.ref I) >>= _) _ _ s;refine ZE (W.item i s _ _ lt st λv s1 hP Cy m=>?_);obtain rfl:=V5 i v hP;have H1:=Ey i s s1 hi st m hk H;have AU:=mv i s s1 hi st m hk;show aac _ A.in1 (adi [Value.ref (val i).2] (setAdd S (Value.ref (val i).2)) >>= _) _ _ s1;refine ZE (aa9 ?_);unfold setAdd;refine aa9 (ZE (knd.pyHash hr (AU i lt) ?_));refine Pg (s:={s1 with toks:=s1.toks+knd.draws (val i).1}) sk hr (AU i lt) H1 (by have:=zD val hi;lia) λh' r sb H2=>?_;obtain⟨oS,eS,epS,tS,gS,dS⟩:=H1.setAt;have Q4:∀j,j<n->knd.is h' (val j).1 (val j).2:=λj hj=>sk.kept (AU j hj) gS dS sb;refine ZJ ⟨plainId_quiet adF _,ih (i+1) _ (by lia) lt (W.frame _ s1 _ _ Cy (ab8 _ _) λb hb o e=>?_) Q4 H2 λs2 m2 Yl H3=>?_⟩
  ·rw[sb.2 b (λz:b=S=>Xm (by rw[←z];exact hb))];exact e
  ·refine q s2 (Moved.trans W.gtrans ((m.mono up).then_heap (ab8 _ _) λb o hb e=>?_) m2) Yl H3;rw[sb.2 b (λz:b=S=>hb (by rw[z];exact ZG))];exact e
end
end Hc.Sx
namespace Hc.Sx
open PySem.SetTable
abbrev AY (w:acs):Bool:=w.params.followText "set-order"
abbrev rF (w:acs):Obj:={cls:=.type "set",dict:=none,data:=.set #[] 0 (.fresh 0 0 (!AY w))}
section
variable {A:aaC}
theorem He (x:ZR)(q:Q (.ref s.heap.objs.size) {s with heap:=s.heap.push (rF w)}):codeAny (aan prog w) A (.call (.builtin "set.__new__") ⟨[.type "set",x],[]⟩) (wants Q E) s:=by
 refine codeAny_of_tree ?_;show aac _ A.in1 (do checkBuiltinCall "set.__new__" ⟨[Value.type "set",x],[]⟩;again (.builtin "set.__new__" ⟨[Value.type "set",x],[]⟩)) _ _ s;refine ZE (acM (PySem.F.newCall_set_1 x) (ZJ ⟨plainId_quiet PySem.F.plain_set_new _,ab0 PySem.F.entry_set_new ?_⟩));rw[abz PySem.F.plain_set_new _];unfold Builtin.«set.__new__» Builtin.Frozenset.newClass;have sb:=sub_set_self;obtain⟨hp,g,d,tk,os⟩:=s;dsimp only;wp_walk;refine abS (ZJ ?_);dsimp only;simp only[newObj];exact ZE (wpAny_alloc (ZJ (ZJ q)))
theorem Hg {t:Z_}(R:Z5->Prop)(fill:aac (aan prog w) A.in1.in1 (Builtin.«set.__init__» ⟨[.ref s.heap.objs.size,.ref t],[]⟩) (λfin s'=>∃r,fin=.done (.ret r)/\r=.none/\R s') E {s with heap:=s.heap.push (rF w)})(q:∀s',R s'->Q (.ref s.heap.objs.size) s'):aac (aan prog w) A (call (.type "set") [.ref t]) Q E s:=by
 obtain⟨c0,tl0,mro0⟩:=PySem.F.called_set.mro;have Zs:=PySem.F.called_set.made;have Zt:=PySem.F.called_set.sub;have Zu:=PySem.F.called_set.notType;have Zv:=PySem.F.called_set.canCreate;have Zw:=PySem.F.typeCall_set_1 (Value.ref t);refine wpAny_call (codeAny_of_tree ?_);show aac _ _ (callAny (Value.type "set") _) _ _ _;refine ZJ ⟨Code.quiet_builtin _ (by decide+kernel),ab0 PySem.F.entry_type_call ?_⟩;rw[Around.under_plain (weight_type_call_type "set" [Value.ref t] []) rfl]
 repeat (any_goals first|assumption|wp_step)
 refine ad4 (He (Value.ref t) (E:=E) (Q:=λx s1=>x=.ref s.heap.objs.size/\s1={s with heap:=s.heap.push (rF w)}) ⟨rfl,rfl⟩) λr s1 hr=>?_;cases r with
 |error e=>exact hr
 |ok fl=>
  cases fl with
  |ret ob=>
   obtain⟨rfl,rfl⟩:=hr;have gS:(s.heap.push (rF w)).get? s.heap.objs.size=some (rF w):=ZW _ rfl;have tS:Shared.TypeIs {s with heap:=s.heap.push (rF w)} (.ref s.heap.objs.size) "set":=⟨_,gS,rfl⟩;have il:=PySem.F.called_set.init.lookup;have ib:=PySem.F.called_set.init.bind (Value.ref s.heap.objs.size)
   repeat (any_goals first|assumption|wp_step)
   refine ad4 (codeAny_call_builtin (R:=wants (λr s2=>r=.none/\R s2) E) PySem.F.called_set.init.plain PySem.F.entry_set_init (check_set_init_1 tS ?_)) λr2 s2 Cv=>?_
   ·exact aaM fill (λfin s' ⟨r,e,h1,h2⟩=>by subst e;exact⟨h1,h2⟩) (λe s' h=>h)
   ·cases r2 with
    |error e=>exact Cv
    |ok f2=>
     cases f2 with
     |ret r=>
      obtain⟨rfl,h2⟩:=Cv
      repeat (any_goals first|assumption|wp_step)
      exact q _ h2
     |_=>exact Cv.elim
  |_=>exact hr.elim
variable {K:Type}[DecidableEq K]{knd:adC prog w K}
theorem zE {l:Z_}{aD:Array ZR}(sk:qB knd)(mono:∀{h h':acz} {k:K} {a:Z_},knd.is h k a->(∀b aD,h.IsTuple b aD->h'.IsTuple b aD)->knd.is h' k a)(hr:knd.room A.in1.in1.in1)(hh:A.handled=none)(hl:s.heap.IsList l aD)(val:Nat->K×Z_)(hv:∀(i:Nat) (v:ZR),aD[i]? = some v->v=.ref (val i).2)(hk:∀j,j<aD.size->knd.is s.heap (val j).1 (val j).2)(hb:(fq val aD.size).length+1<=2047)(q:∀(h':acz) (tk:Nat),nG knd (AY w) h' s.heap.objs.size (fq val aD.size)->(∀b o,s.heap.get? b=some o->h'.get? b=some o)->Q (.ref s.heap.objs.size) {s with heap:=h',toks:=tk}) :
  aac (aan prog w) A (call (.type "set") [.ref l]) Q E s:=by
 refine Hg (λs'=>∃h' tk,s'={s with heap:=h',toks:=tk}/\nG knd (AY w) h' s.heap.objs.size (fq val aD.size)/\∀b o,s.heap.get? b=some o->h'.get? b=some o) ?_ λs' ⟨h',tk,e,h1,h2⟩=>by subst e;exact q h' tk h1 h2
 obtain⟨ot,gt,ct,nt,dt⟩:=hl;obtain⟨oc,od,oda,os⟩:=ot;simp only at ct dt;subst ct;subst dt;have Ym:(s.heap.push (rF w)).get? l=some {cls:=.type "list",dict:=od,data:=.seq aD nt,slots:=os}:=ZP _ gt;have gS:(s.heap.push (rF w)).get? s.heap.objs.size=some (rF w):=ZW _ rfl;have n1:=PySem.F.sub_list_set;have n2:=PySem.F.sub_list_frozenset;have n3:(Value.type "list"==Value.type "dict")=false:=by decide
 have Xn:(s.heap.push (rF w)).IsList l aD:=⟨_,Ym,rfl,nt,rfl⟩;unfold Builtin.«set.__init__» noKeywords Builtin.Frozenset.updateFrom;generalize ePI:pyIter=PI;wp_walk;subst ePI;refine aeX Xn ?_;refine ZE (wpAny_runValue ?_);have lt:l<s.heap.objs.size:=Z4 gt;have h3:A.in1.in1.in1.handled=none:=by simp[hh]
 have V6:l≠(s.heap.push (rF w)).objs.size:=by rw[abJ];exact aah (acY lt)
 have ni:s.heap.objs.size∉[(s.heap.push (rF w)).objs.size,l]:=by
  rw[abJ];simp only[ZX,acx,or_false,not_or];exact⟨aah (Nat.lt_succ_self _),ab9 lt⟩
 have Xo:∀(h:acz) (o:Obj) b aD,h.IsTuple b aD->(h.push o).IsTuple b aD:=λh o b aD x=>x.push o;refine Fg (byText:=AY w) sk hr ((Walks.list h3 _ l V6 aD).toS) s.heap.objs.size ni val hv hb (λi u u' _ st m ks j hj=>?_) (aD.size-0) 0 _ (by lia) (abc _) ⟨⟨_,ZW _ rfl,rfl,rfl⟩,Xn.push _⟩ (λj hj=>mono (hk j hj) λb i2 x=>Xo _ _ _ _ (Xo _ _ _ _ x)) ?z0 ?zR
 ·refine mono (ks j hj) λb i2 ⟨o,e,c,n,d⟩=>⟨o,m.heap b o (λhm=>?_) e,c,n,d⟩;rw[Z1] at hm;subst hm;obtain⟨o2,e2,c2,_⟩:=st.1;rw[e] at e2;cases e2;rw[c] at c2;exact absurd c2 (by decide)
 case z0=>exact Hd (by cases AY w<;>simp) (ZP _ gS)
 case zR=>
  intro s' hm _ QH;obtain⟨h',g',d',VX,o'⟩:=s';have eg:g'=s.gens:=hm.gens;have ed:d'=s.drawn:=hm.drawn;have Yn:o'=s.os:=hm.os;subst eg;subst ed;subst Yn;show aac _ _ _ _ _ _;refine ZJ ?_;show aac _ _ (ret Value.none) _ _ _;refine ZJ ⟨_,rfl,rfl,h',VX,rfl,QH,λb o e=>?_⟩;have Xp:=Z4 e;refine hm.heap b o ?_ (ZP _ (ZP _ e));rw[abJ];simp only[ZX,acx,or_false,not_or];exact⟨aah Xp,aah (acY Xp)⟩
end
end Hc.Sx
namespace L2
section
variable {e:abH}{pos lu p1 p2:Pos}{b1:Bool}{ga:Ev->R (List U×Ev)}
theorem Hh:aaO "set"=some (.type "set"):=by decide+kernel
end
section
variable {pos:Pos}
theorem zF {xs:List V}{us:List ZR}(r:bg xs us):∀n:Nat,bg (abg n xs).flatten (abg n us).flatten
 |0=>.nil
 |n+1=>by
  rw[ab2,ab2,adW,adW];exact r.append (zF r n)
theorem Dj {α:Type}(xs:List α)(n:Nat):(abg n xs).flatten.length=xs.length*n:=by
 simp[aa6]
theorem Dk {H:Hp}{A:Z_->Prop}{us:List U}{xs:List V}(r:aH K H A us xs):∀n:Nat,aH K H A (abg n us).flatten (abg n xs).flatten
 |0=>aH.nil
 |n+1=>by
  rw[ab2,ab2,adW,adW];exact r.append (Dk r n)
end
@[irreducible] def Ph (X:Cx)(G:Gm)(es:List abH)(b p:Bool)(g:Ev->R (List U×Ev)):Prop:=DA X G es b p g
section
variable {e:abH}{es:List abH}{b1 b2 p:Bool}{m1:Md}{g1:Ev->R (U×Ev)}{ga:Ev->R (List U×Ev)}
theorem Hi (h:Ph X G es b1 p ga):DA X G es b1 p ga:=by unfold Ph at h;exact h
theorem gh:Ph X G [] false p au:=by unfold Ph;exact ai
theorem aF (ha:DE X G e b1 m1 g1)(hr:Ph X G es b2 p ga)(hm:m1=.P->(p=true/\b2=false):=by first|exact λ_=>⟨rfl,rfl⟩|exact λh=>nomatch h)
  (hs:Z8 (e::es) X.env=(false,acD e X.env)::Z8 es X.env:=by rfl):Ph X G (e::es) (b1||b2) p (af g1 ga):=by
 unfold Ph at hr ⊢;exact ae ha hr hm hs
end
end L2
namespace Hc.Zp
section
variable {A:aaC}
theorem BF {xs:Array ZR}{x:ZR}(hi:s.heap.IsTupleIter it a i)(ha:s.heap.IsTuple a xs)(hx:xs[i]? = some x)(q:∀h',h'.IsTupleIter it a (i+1)->aa0 it s.heap h'->Q x {s with heap:=h'}):aac (aan prog w) A (acd (.ref it)) Q E s:=by
 obtain⟨o,ho,hc,hd⟩:=id hi;obtain⟨oa,hoa,_,na,hda⟩:=ha;unfold acd;refine ZE (aaG (name:=aay "__next__") hi.typeIs ab5 (aat ab5 hi.typeIs aeu ?_ (aek _)));show aac _ _ (field (Value.ref it) 0 >>= _) _ _ s;refine ZE (abF ho hd (x:=.ref a) rfl ?_);show aac _ _ (if (Value.ref a==Value.none)=true then _ else _) _ _ s;rw[hV (show ¬((Value.ref a==Value.none)=true) from ZM)];show aac _ _ (field (Value.ref it) 1 >>= _) _ _ s;refine ZE (abF ho hd (x:=.int i 0) rfl ?_);show aac _ _ (seqItems? (Value.ref a) >>= _) _ _ s;refine ZE (wpAny_seqItems hoa hda ?_);simp only[aar,hx];refine ZE (ace ho hd (by simp) (ZJ ⟨x,rfl,ZJ (q _ ⟨_,abL _ ho (acN (aby hd _)),(adX ..).trans hc,?_⟩ (aaU ..))⟩));rw[aby hd];simp[aeg]
theorem Fh {xs:Array ZR}(hh:A.handled=none)(hi:s.heap.IsTupleIter it a i)(ha:s.heap.IsTuple a xs)(hx:xs[i]? = none)(q:∀h' e,Heap.ExtBut it s.heap h'->(∃o,h'.get? e=some o/\o.cls=.type "StopIteration")->E (.ref e) {s with heap:=h'}):aac (aan prog w) A (acd (.ref it)) Q E s:=by
 obtain⟨o,ho,hc,hd⟩:=id hi;obtain⟨oa,hoa,_,na,hda⟩:=ha;unfold acd;refine ZE (aaG (name:=aay "__next__") hi.typeIs ab5 (aat ab5 hi.typeIs aeu ?_ (aek _)));show aac _ _ (field (Value.ref it) 0 >>= _) _ _ s;refine ZE (abF ho hd (x:=.ref a) rfl ?_);show aac _ _ (if (Value.ref a==Value.none)=true then _ else _) _ _ s;rw[hV (show ¬((Value.ref a==Value.none)=true) from ZM)];show aac _ _ (field (Value.ref it) 1 >>= _) _ _ s;refine ZE (abF ho hd (x:=.int i 0) rfl ?_);show aac _ _ (seqItems? (Value.ref a) >>= _) _ _ s;refine ZE (wpAny_seqItems hoa hda ?_);simp only[aar,hx];refine ZE (wpAny_rule (ZE (ace ho hd (by simp) ?_)));show aac _ _ (newExc (Value.type "StopIteration") [] >>= _) _ _ _;refine ZE ?_;simp only[newExc,newTuple];refine ZE (aav ?_ (by size_fits));refine ZE (m:=acf _ _) (acM (a:=Value.none) (by first|rfl|(simp only[acf];rfl)) ?_);refine aav ?_ (by size_fits);simp only[raiseNew];refine ZE (wpAny_handled ?_)
 first|rw[show A.in1.handled=none from hh]|rw[hh]
 exact ZE (ZJ (wpAny_throw (q _ _ (((aaU ..).extBut.push _).push _) ⟨_,ZW _ rfl,rfl⟩)))
end
end Hc.Zp
namespace L2
open Hc.Zp
section
variable {T:Z_}{o:HO}
theorem aL.turnNew {t':Nat}(I:aL X pins σ H s)(hf:∀b∈fp,rq X pins H b)(k:∀b o,b∉fp->s.heap.get? b=some o->h'.get? b=some o)(hT:s.heap.objs.size<=T)(new:dH X.prog X.w (cH H T o) h' T o) :
  aL X pins σ (cH H T o) {s with heap:=h',toks:=t'}:=by
 have hn:H T=none:=I.hok.fresh hT;have nf:∀b u,H b=some u->b∉fp:=λb u e z=>by rw[(hf b z).1] at e;cases e
 have nT:∀b u,H b=some u->b≠T:=λb u e z=>by rw[z,hn] at e;cases e
 refine I.step (g':=s.gens) (d':=s.drawn) (ch:=fp) (λb hb=>?_) (λb o _ _ hc e _=>k b o hc e) (λb o _ _ hc e _=>⟨o.slots,k b o hc e⟩) (λb o _ e n=>?_) (λb o hc e=>⟨o,k b o hc e⟩)
  (λb xs e=>?_) (λb o u e=>?_) (λb ps e=>⟨#[],?_⟩) (λm hm=>?_) (λb u e=>?_) I.bare
 ·obtain⟨f0,f1,f2,f3,f4,f5⟩:=hf b hb;exact⟨f3,f1,f4,f5⟩
 ·rw[a_ (aah (aak (Z4 e) hT))];exact n
 ·rw[a_ (nT b _ e)];exact e
 ·rw[a_ (nT b _ e)];exact e
 ·rw[a_ (nT b _ e),e];simp
 ·obtain⟨o,es,ep,ho,r⟩:=hm;exact⟨o,es,ep,k _ o (λz=>(hf _ z).2.1 rfl) ho,r⟩
 ·by_cases c:b=T
  ·subst c;rw[bj] at e;cases e;exact new
  ·rw[a_ c] at e;refine (I.hok b u e).stay (λc v hc q=>k c v ?_ q) (λc q=>by rw[a_ (nT c _ q)];exact q) λc xs q=>by rw[a_ (nT c _ q)];exact q
   rcases hc with z|z
   ·rw[z];exact nf b u e
   ·exact nf c _ z
theorem aL.turneds {t':Nat}(I:aL X pins σ H s)(hf:∀b∈fp,rq X pins H b)(k:∀b o,b∉fp->s.heap.get? b=some o->h'.get? b=some o):aL X pins σ H {s with heap:=h',toks:=t'}:=by
 have nf:∀b u,H b=some u->b∉fp:=λb u e z=>by rw[(hf b z).1] at e;cases e
 refine I.step (g':=s.gens) (d':=s.drawn) (ch:=fp) (λb hb=>?_) (λb o _ _ hc e _=>k b o hc e) (λb o _ _ hc e _=>⟨o.slots,k b o hc e⟩) (λb o _ e n=>n) (λb o hc e=>⟨o,k b o hc e⟩)
  (λb xs e=>e) (λb o u e=>e) (λb ps e=>⟨#[],by rw[e];simp⟩) (λm hm=>?_) (λb u e=>?_) I.bare
 ·obtain⟨f0,f1,f2,f3,f4,f5⟩:=hf b hb;exact⟨f3,f1,f4,f5⟩
 ·obtain⟨o,es,ep,ho,r⟩:=hm;exact⟨o,es,ep,k _ o (λz=>(hf _ z).2.1 rfl) ho,r⟩
 ·refine (I.hok b u e).stay (λc v hc q=>k c v ?_ q) (λ_ q=>q) λ_ _ q=>q;rcases hc with z|z
  ·rw[z];exact nf b u e
  ·exact nf c _ z
end
def Wz (K:ZN)(a1 a2:Z_):It:=
  ⟨λi H=>∃xs ys x y,fu K H a1 xs/\fu K H a2 ys/\xs[i]? = some x/\ys[i]? = some y,
   λi H v H'=>∃T x y,v=.ref T/\H T=none/\H'=cH H T (.tup [x,y])/\(∀xs,fu K H a1 xs->xs[i]? = some x)/\(∀ys,fu K H a2 ys->ys[i]? = some y),
   λi H=>∃xs ys,fu K H a1 xs/\fu K H a2 ys/\(xs.length<=i\/ys.length<=i)⟩
theorem Hj {z uI uO i1 i2 a1 a2:Z_}(D:ZipApart z uI uO i1 i2 a1 a2) :
  yV P w K (.Tuple elts kt tp) (Wz K a1 a2) [z,uI,uO,i1,i2] z (λi h=>IsZip h z uI uO .none/\IsPair h uI (.ref i1) (.ref i2)/\(∃p q,IsPair h uO p q)/\h.IsListIter i1 a1 i/\h.IsListIter i2 a2 i) where
 mem:=by simp
 obj:=λi h ⟨hz,hI,⟨p,q,hO⟩,h1,h2⟩ b hb=>by
  obtain⟨o1,e1,_,d1⟩:=h1;obtain⟨o2,e2,_,d2⟩:=h2;simp only[ZX,abl,or_false] at hb;rcases hb with rfl|rfl|rfl|rfl|rfl
  ·exact⟨_,hz,λv e=>by cases e⟩
  ·exact⟨_,hI,λv e=>by cases e⟩
  ·exact⟨_,hO,λv e=>by cases e⟩
  ·exact⟨o1,e1,λv e=>by rw[d1] at e;cases e⟩
  ·exact⟨o2,e2,λv e=>by rw[d2] at e;cases e⟩
 keep:=λi h h' ⟨hz,hI,⟨p,q,hO⟩,h1,h2⟩ k=>⟨k z (by simp) _ hz,k uI (by simp) _ hI,⟨p,q,k uO (by simp) _ hO⟩,h1.at λo e=>k i1 (by simp) o e,h2.at λo e=>k i2 (by simp) o e⟩
 item:=by
  intro X hP hw hK hc i pins s σ H E I hf st hg;subst hP hw hK;obtain⟨hz,hI,⟨p,q,hO⟩,h1,h2⟩:=st;obtain⟨xs,ys,x,y,q1,q2,hx,hy⟩:=hg;obtain⟨is1,v1,g1,_⟩:=I.list q1;obtain⟨is2,v2,g2,_⟩:=I.list q2;obtain⟨u1,jz,r1⟩:=v1.get hx;obtain⟨u2,Mt,r2⟩:=v2.get hy;obtain⟨o1,e1,_⟩:=id h1;obtain⟨o2,e2,_⟩:=id h2;have lz:=Z4 hz;have lI:=Z4 hI;have lO:=Z4 hO;have Yo:=Z4 e1;have Yp:=Z4 e2;refine wpAny_pyNext_zip_item D hz hI hO h1 h2 g1.isList g2.isList (x:=u1) (y:=u2) (by simpa using jz) (by simpa using Mt) λh' c1 c2 c3 c4 c5 _ kp=>⟨_,rfl,?_⟩;refine wpAny_letOwnedTupleGo_zip c1 λEx z2 sb=>?_;have J6:IsPair Ex s.heap.objs.size u1 u2:=sb.extBut _ _ (ab9 lz) c5;have V7:∀b o,b∉[z,uI,uO,i1,i2]->s.heap.get? b=some o->Ex.get? b=some o:=λb o hb e=>by
   simp only[ZX,abl,or_false,not_or] at hb;exact sb.extBut _ _ hb.1 (kp b o hb.1 hb.2.2.1 hb.2.2.2.1 hb.2.2.2.2 e)
  have I2:aL X pins σ (cH H s.heap.objs.size (.tup [x,y])) {s with heap:=Ex}:=I.turnNew (t':=s.toks) hf V7 (ZS _) ⟨by rw[abv];simp,[u1,u2],.cons r1 (.cons r2 .nil),⟨_,J6,rfl,_,rfl⟩,_,J6⟩;have fr:H s.heap.objs.size=none:=I.hok.fresh (ZS _);refine⟨.ref s.heap.objs.size,_,I2,rfl,⟨_,x,y,rfl,fr,rfl,λzs hq=>by rw[I.list_inj hq q1];exact hx,λzs hq=>by rw[I.list_inj hq q2];exact hy⟩,⟨z2,?_,⟨u1,u2,?_⟩,?_,?_⟩,λb hb=>?_⟩
  ·exact sb.extBut _ _ D.TIz (kp _ _ D.TIz D.TITO D.TIi1 D.TIi2 hI)
  ·exact sb.extBut _ _ D.TOz c2
  ·exact c3.at λo e=>sb.extBut _ _ D.i1z e
  ·exact c4.at λo e=>sb.extBut _ _ D.i2z e
  ·have hn:b≠s.heap.objs.size:=by
    simp only[ZX,abl,or_false] at hb;rcases hb with rfl|rfl|rfl|rfl|rfl
    ·exact aah lz
    ·exact aah lI
    ·exact aah lO
    ·exact aah Yo
    ·exact aah Yp
   rw[a_ hn];exact (hf b hb).1
 done:=by
  intro X hP hw hK hc i pins s σ H E I hf st hg;subst hP hw hK;obtain⟨hz,hI,⟨p,q,hO⟩,h1,h2⟩:=st;obtain⟨xs,ys,q1,q2,he⟩:=hg;obtain⟨is1,v1,g1,_⟩:=I.list q1;obtain⟨is2,v2,g2,_⟩:=I.list q2;have n1:=v1.length;have n2:=v2.length;refine wpAny_pyNext_zip_end (I.ok.hd hc) D hz hI hO h1 h2 g1.isList g2.isList (by
   rcases he with he|he
   ·exact .inl (by simp;lia)
   ·exact .inr (by simp;lia)) λh' kp=>⟨rfl,I.turneds (t':=s.toks) hf λb o hb e=>?_⟩
  simp only[ZX,abl,or_false,not_or] at hb;exact kp b o hb.1 hb.2.2.1 hb.2.2.2.1 hb.2.2.2.2 e
 self:=λ_ _ _ _ _ st h=>wpAny_pyIter_zip st.1 h
section
variable {p pos:Pos}{a b:abH}
theorem Pj:aaO "zip"=some (.type "zip"):=by decide+kernel
def Vo (K:ZN)(ta:TA):TI:=λσ H R=>ta σ H λvs H1=>∃a1 a2 xs ys,vs=[.ref a1,.ref a2]/\fu K H1 a1 xs/\fu K H1 a2 ys/\R (Wz K a1 a2) H1
theorem Pl {ta:TA}(hg:Gl X "zip")(hm:X.mg "zip"=none)(ha:PA X [a,b] ta)(hs:Z8 [a,b] X.env=[(false,acD a X.env),(false,acD b X.env)]:=by rfl)(yM:Z8 [b] X.env=[(false,acD b X.env)]:=by rfl) :
  PI X (.Tuple elts kt tp) (.Call (.Name "zip" p) [a,b] [] pos) (Vo X.K ta):=by
 intro pins s σ H R I h;refine Call_ (sT I hg hm Pj (abY (fQ (ha pos pins s σ H _ I h) λus s1 ⟨vs,H1,I1,r1,q1⟩=>?_) (by rw[hs,yM]) (by rw[yM];rfl)));obtain⟨a1,a2,xs,ys,rfl,g1,g2,q⟩:=q1;cases r1 with
 |cons r rr=>
  cases rr with
  |cons r' rr=>
   cases rr;cases r;cases r';obtain⟨is1,v1,m1,_⟩:=I1.list g1;obtain⟨is2,v2,m2,_⟩:=I1.list g2;have lt:∀(c:Z_) (zs:Array ZR),s1.heap.IsList c zs->c<s1.heap.objs.size:=λc zs ⟨_,e,_⟩=>Z4 e;refine call_zip_2 m1.isList m2.isList λh' z1 z2 z3 z4 z5 _ kp=>wpAny_pyIter_zip z1 ?_;refine⟨_,[s1.heap.objs.size+4,s1.heap.objs.size+2,s1.heap.objs.size+3,s1.heap.objs.size,s1.heap.objs.size+1],_,_,H1,rfl,I1.kept (t':=s1.toks) λb o e=>kp b o e,Hj (zipApart_new (lt a1 _ m1.isList) (lt a2 _ m2.isList)),⟨z1,z2,⟨_,_,z3⟩,z4,z5⟩,λb hb=>?_,q⟩;have hb:s1.heap.objs.size<=b:=by
    simp only[ZX,abl,or_false] at hb;rcases hb with rfl|rfl|rfl|rfl|rfl
    ·exact ab8 _ _
    ·exact ab8 _ _
    ·exact ab8 _ _
    ·exact ZS _
    ·exact ab8 _ _
   exact I1.fpOk hb (I1.hok.fresh hb)
end
def Lc (ga:Ev->R (List U×Ev)):Ev->R (List U×Ev):=λρ=>(ga ρ).bind λx=>match x.1 with
 | [.lst us,.lst ws]=>.ok (abe (λa b=>.tup [a,b]) us ws,x.2)
 |_=>.stk
section
variable {p1 pos:Pos}{a b:abH}{b1:Bool}{ga:Ev->R (List U×Ev)}
theorem Pm (ha:DA X G [a,b] b1 false ga)(hm:X.mg "zip"=none)(hg:Gl X "zip":=by rfl)(hs:Z8 [a,b] X.env=[(false,acD a X.env),(false,acD b X.env)]:=by rfl)(yM:Z8 [b] X.env=[(false,acD b X.env)]:=by rfl) :
  DI X G (.Tuple elts kt tp) (.Call (.Name "zip" p1) [a,b] [] pos) b1 false (Lc ga):=⟨(Pl hg hm ha.un hs yM).to λσ H RR h00=>by
 obtain⟨Z,A,ρ,q,f⟩:=h00;unfold Lc at f;cases e1:ga ρ with
 |stk=>rw[e1] at f;exact f.elim
 |exc=>rw[e1] at f;exact f.elim
 |ok y=>
  obtain⟨us,ρ1⟩:=y;rw[e1] at f;dsimp only[L2.R.bind] at f;refine⟨Z,A,ρ,q,?_⟩;rw[e1];intro vs H1 q1 x1 s1 vm;split at f
  ·rename_i VZ ρ' e2;split at e2
   ·rename_i as bs;cases e2;have r:=vm.rps;unfold aH at r;obtain⟨v,vr,rfl,r1,r2⟩:=r;unfold aH at r2;obtain⟨v',vr',rfl,r3,r4⟩:=r2;unfold aH at r4;subst r4;unfold Rp at r1 r3;obtain⟨a1,xs,rfl,na,k1,n1,z1⟩:=r1;obtain⟨a2,ys,rfl,nb,k2,n2,z2⟩:=r3;refine⟨a1,a2,xs,ys,rfl,fu.of k1,fu.of k2,f _ H1 q1 x1 s1 ⟨?_,λH2 A' hx A7=>?_⟩⟩
    ·rw[ab1];exact aaP (Nat.min_le_left _ _) n1
    ·rw[hV ZM] at hx;have QM:fu X.K H2 a1 xs:=fu.of (hx a1 _ na k1);have V8:fu X.K H2 a2 ys:=fu.of (hx a2 _ nb k2);have w1:=z1.re q1.mu hx A7;have w2:=z2.re q1.mu hx A7;refine⟨λi u hu=>?_,⟨xs,ys,QM,V8,?_⟩⟩
     ·rw[List.getElem?_zipWith] at hu;cases hA:as[i]? with
      |none=>rw[hA] at hu;cases hu
      |some ua=>cases hB:bs[i]? with
       |none=>rw[hA,hB] at hu;cases hu
       |some ub=>
        rw[hA,hB] at hu;cases hu;obtain⟨x,hx1,px⟩:=w1.get hA;obtain⟨y,hy1,py⟩:=w2.get hB;refine⟨⟨xs,ys,x,y,QM,V8,hx1,hy1⟩,λx' H' yl=>?_⟩;obtain⟨T,x2,y2,rfl,hT,rfl,g1,g2⟩:=yl;have ex:x2=x:=by have:=g1 xs QM;rw[hx1] at this;cases this;rfl
        have ey:y2=y:=by have:=g2 ys V8;rw[hy1] at this;cases this;rfl
        subst ex ey;have sm:=cR hT (.tup [x2,y2]);refine⟨sm,?_⟩;unfold Rp;exact⟨T,_,rfl,bj,by have:ZL=16777216:=rfl;rw[this];simp,aH.cons (px.same sm) (aH.cons (py.same sm) aH.nil)⟩
     ·rw[ab1,←z1.length,←z2.length];rcases Nat.le_total as.length bs.length with z|z
      ·exact .inl (by rw[Nat.min_eq_left z];exact ZS _)
      ·exact .inr (by rw[Nat.min_eq_right z];exact ZS _)
   ·cases e2
  ·exact f.elim⟩
end
end L2
namespace L2
theorem nr {α:Sort _}{a b:α}(h:a=b):a=b:=h
def look (o:Option (Option U))(ρ:Ev):R (U×Ev):=match o with
 |some (some u)=>.ok (u,ρ)
 |_=>.stk
def WA (u:U)(ρ:Ev):R (Bool×Ev):=match u with
 | .bl c=>.ok (c,ρ)
 |_=>.stk
def UB (o:Option U):R U:=match o with
 |some u=>.ok u
 |none=>.stk
def SR.seq (r:SR)(g:Ev->SR):SR:=match r with
 | .nx ρ=>g ρ
 |r=>r
def SR.turn (r:SR)(g:Ev->SR):SR:=match r with
 | .nx ρ=>g ρ
 | .ct ρ=>g ρ
 | .bk ρ=>.nx ρ
 |r=>r
def pY (m:Md)(r:SR):R U:=match r with
 | .rt u _=>.ok u
 | .nx _=>if m=.S then .ok .non else .stk
 | .exc c u=>.exc c u
 |_=>.stk
def io0 (u:U)(o:Option (Option U)):R (U×U):=match o with
 |some (some w)=>.ok (u,w)
 |_=>.stk
def Po (r:SR):R (U×U):=match r with
 | .rt u ρ=>io0 u ρ[0]?
 | .nx ρ=>io0 .non ρ[0]?
 | .exc c u=>.exc c u
 |_=>.stk
section
variable {w:U}{α β:Type}{g g1 g2 g3:Ev->R (U×Ev)}{h h1 h2:Ev->R (Bool×Ev)}{s s1 s2:Ev->SR}{ga:Ev->R (List U×Ev)}{m:Md}{ws:List U}
theorem MR:ag i ρ=look ρ[i]? ρ:=nr rfl
theorem Hk:look (some (some u)) ρ=.ok (u,ρ):=nr rfl
theorem WB:gC u ρ=.ok (u,ρ):=nr rfl
theorem Fi {a:α}{f:α->R β}:(R.ok a).bind f=f a:=nr rfl
theorem MS {f:α->R β}:(R.stk:R α).bind f=.stk:=nr rfl
theorem m6 {a:α}{f:α->SR}:SR.of (R.ok a) f=f a:=nr rfl
theorem R9 {p:U->U->R U}:aU p g1 g2 ρ=(g1 ρ).bind λx=>(g2 x.2).bind λy=>(p x.1 y.1).bind λz=>.ok (z,y.2):=nr rfl
theorem WC:gB g ρ=(g ρ).bind λx=>WA x.1 x.2:=nr rfl
theorem MT {c:Bool}:WA (.bl c) ρ=.ok (c,ρ):=nr rfl
theorem Hl:zg h1 h2 ρ=(h1 ρ).bind λx=>if x.1=true then h2 x.2 else .ok (false,x.2):=nr rfl
theorem MU:MK h1 h2 ρ=(h1 ρ).bind λx=>if x.1=true then .ok (true,x.2) else h2 x.2:=nr rfl
theorem Hm:Bn h ρ=(h ρ).bind λx=>.ok (!x.1,x.2):=nr rfl
theorem MV:Vd g1 g2 ρ=(gB g1 ρ).bind λx=>if x.1=true then g2 x.2 else .ok (.bl false,x.2):=nr rfl
theorem R_:XN g1 g2 ρ=(gB g1 ρ).bind λx=>if x.1=true then .ok (.bl true,x.2) else g2 x.2:=nr rfl
theorem MW:Ve g ρ=(gB g ρ).bind λx=>.ok (.bl (!x.1),x.2):=nr rfl
theorem Sa:Us h g1 g2 ρ=(h ρ).bind λx=>if x.1=true then g1 x.2 else g2 x.2:=nr rfl
def WD (p':U->U->R U)(g3:Ev->R (U×Ev))(y:U×Ev)(z:U):R (U×Ev):=match z with
 | .bl k=>if k=true then (g3 y.2).bind λw=>(p' y.1 w.1).bind λz'=>.ok (z',w.2) else .ok (.bl false,y.2)
 |_=>.stk
theorem Dm {p p':U->U->R U}:OX p p' g1 g2 g3 ρ=(g1 ρ).bind λx=>(g2 x.2).bind λy=>(p x.1 y.1).bind λz=>WD p' g3 y z:=nr rfl
theorem MX {p':U->U->R U}{y:U×Ev}{k:Bool}:WD p' g3 y (.bl k)=if k=true then (g3 y.2).bind λw=>(p' y.1 w.1).bind λz'=>.ok (z',w.2) else .ok (.bl false,y.2):=nr rfl
theorem Sb {p:U->R U}:Ut p g ρ=(g ρ).bind λx=>(p x.1).bind λz=>.ok (z,x.2):=nr rfl
theorem Hn:au ρ=.ok ([],ρ):=nr rfl
theorem Dn:af g ga ρ=(g ρ).bind λx=>(ga x.2).bind λy=>.ok (x.1::y.1,y.2):=nr rfl
theorem Ho:aV ga ρ=(ga ρ).bind λx=>if x.1.length<=ZL then .ok (.tup x.1,x.2) else .stk:=nr rfl
theorem Hq:fR ga ρ=(ga ρ).bind λx=>if x.1.length<=ZL then .ok (.lst x.1,x.2) else .stk:=nr rfl
theorem Sd {p:List U->R U}:iD p ga ρ=(ga ρ).bind λx=>(p x.1).bind λz=>.ok (z,x.2):=nr rfl
theorem Se {f:List U->R U}:fy n f ga ρ=(ga ρ).bind λx=>(Bp n f x.1).bind λz=>.ok (z,x.2):=nr rfl
theorem MY {f:List U->R α}(h:us.length=n):Bp n f us=f us:=hZ h
def WE (n:Nat)(f:List U->R (U×U))(us:List U)(i:Nat)(ρ:Ev)(o:Option (Option U)):R (U×Ev):=match o with
 |some (some u0)=>(Bp n f (u0::us)).bind λz=>.ok (z.1,ρ.set i (some z.2))
 |_=>.stk
theorem MZ {f:List U->R (U×U)}:WE n f us i ρ (some (some u))=(Bp n f (u::us)).bind λz=>.ok (z.1,ρ.set i (some z.2)):=nr rfl
def Dq (o:Option (Option U)):Bool:=match o with
 |some (some _)=>true
 |_=>false
theorem Dr:Dq (some (some u))=true:=nr rfl
theorem Sg {f:List U->R (U×U)}:FY n i f ga ρ=if Dq ρ[i]? = true then (ga ρ).bind λx=>WE n f x.1 i x.2 x.2[i]? else .stk:=nr rfl
def Vp (i:Nat)(p:U->List U->R (U×U))(us:List U)(ρ:Ev)(o:Option (Option U)):R (U×Ev):=match o with
 |some (some u0)=>(p u0 us).bind λz=>.ok (z.1,ρ.set i (some z.2))
 |_=>.stk
theorem M5 {p:U->List U->R (U×U)}:Vp i p us ρ (some (some u))=(p u us).bind λz=>.ok (z.1,ρ.set i (some z.2)):=nr rfl
def WG (T:String)(i:Nat)(p:U->List U->R (U×U))(ga:Ev->R (List U×Ev))(ρ:Ev)(o:Option (Option U)):R (U×Ev):=match o with
 |some (some u1)=>if EX u1 T=true then (ga ρ).bind λx=>Vp i p x.1 x.2 x.2[i]? else .stk
 |_=>.stk
theorem M6 {T:String}{p:U->List U->R (U×U)}:WG T i p ga ρ (some (some u))=if EX u T=true then (ga ρ).bind λx=>Vp i p x.1 x.2 x.2[i]? else .stk:=nr rfl
theorem WH {T:String}{p:U->List U->R (U×U)}:gM T i p ga ρ=WG T i p ga ρ ρ[i]? := nr rfl
theorem Hr:EX (.lst us) "list"=true:=nr rfl
theorem Ds:RT ρ=.ok (none,ρ):=nr rfl
def WI (u:U)(ρ:Ev):R (Option Int×Ev):=match u with
 | .int i=>.ok (some i,ρ)
 |_=>.stk
theorem M7 {k:Int}:WI (.int k) ρ=.ok (some k,ρ):=nr rfl
theorem Dt:RU g ρ=(g ρ).bind λx=>WI x.1 x.2:=nr rfl
theorem Sh {p:U->Option Int->Option Int->R U}{lo hi:Ev->R (Option Int×Ev)}:XO p g lo hi ρ=(g ρ).bind λx=>(lo x.2).bind λl=>(hi l.2).bind λh=>(p x.1 l.1 h.1).bind λz=>.ok (z,h.2):=nr rfl
def jV (T:String)(u:U)(ρ:Ev):R (U×Ev):=if Uy u="script" then .stk else .ok (.bl (jF (Uy u) T),ρ)
theorem Hs {T:String}:RY T g ρ=(g ρ).bind λx=>jV T x.1 x.2:=nr rfl
theorem Ht:bS ρ=.nx ρ:=nr rfl
theorem Du:O0 ρ=.bk ρ:=nr rfl
theorem Hu:RV ρ=.ct ρ:=nr rfl
theorem M8:aK s1 s2 ρ=(s1 ρ).seq s2:=nr rfl
theorem Hv:(SR.nx ρ).seq s=s ρ:=nr rfl
theorem Hw:(SR.rt u ρ).seq s=.rt u ρ:=nr rfl
theorem Hx:(SR.bk ρ).seq s=.bk ρ:=nr rfl
theorem Hy:(SR.ct ρ).seq s=.ct ρ:=nr rfl
theorem Hz:oz g ρ=SR.of (g ρ) λx=>.nx x.2:=nr rfl
theorem M9:bc g ρ=SR.of (g ρ) λx=>.rt x.1 x.2:=nr rfl
theorem M_:bp i g ρ=SR.of (g ρ) λx=>.nx (x.2.set i (some x.1)):=nr rfl
theorem Na {sg:U->Ev->R Ev}:Vh sg g ρ=SR.of (g ρ) λx=>SR.of (sg x.1 x.2) .nx:=nr rfl
theorem Nb:mS h s1 s2 ρ=SR.of (h ρ) λx=>if x.1=true then s1 x.2 else s2 x.2:=nr rfl
def WJ (i j:Nat)(ρ:Ev)(o:Option (Option U)):SR:=match o with
 |some (some u)=>.nx ((ρ.set j none).set i (some u))
 |_=>.stk
theorem HA:RW i j ρ=WJ i j ρ ρ[j]? := nr rfl
theorem Nc:WJ i j ρ (some (some u))=.nx ((ρ.set j none).set i (some u)):=nr rfl
def Si (i j:Nat)(us:List U)(ρ:Ev):SR:=match us with
 | [u,w]=>.nx ((ρ.set i (some u)).set j (some w))
 |_=>.stk
theorem Nf:Vi i j ga ρ=SR.of (ga ρ) λx=>Si i j x.1 x.2:=nr rfl
theorem HB:Si i j [u,w] ρ=.nx ((ρ.set i (some u)).set j (some w)):=nr rfl
def UC (i:Nat)(v k:U)(ρ:Ev)(o:Option (Option U)):SR:=match k with
 | .int k=>match o with
  |some (some (.lst us))=>match Bf us.length k with
   |some j=>.nx (ρ.set i (some (.lst (us.set j v))))
   |none=>.stk
  |_=>.stk
 |_=>.stk
theorem HC:zm i g1 g2 ρ=SR.of (g1 ρ) λx=>if Dq x.2[i]? = true then SR.of (g2 x.2) λy=>UC i x.1 y.1 y.2 y.2[i]? else .stk:=nr rfl
theorem Ng {k:Int}(h:Bf us.length k=some j):UC i w (.int k) ρ (some (some (.lst us)))=.nx (ρ.set i (some (.lst (us.set j w)))):=by
 unfold UC;dsimp only;rw[h]
def Sj (i:Nat)(p:U->U->R U)(g:Ev->R (U×Ev))(ρ:Ev)(o:Option (Option U)):SR:=match o with
 |some (some u)=>SR.of (g ρ) λy=>SR.of (p u y.1) λz=>.nx (y.2.set i (some z))
 |_=>.stk
theorem Nh {p:U->U->R U}:Vj i p g ρ=Sj i p g ρ ρ[i]? := nr rfl
theorem HD {p:U->U->R U}:Sj i p g ρ (some (some u))=SR.of (g ρ) λy=>SR.of (p u y.1) λz=>.nx (y.2.set i (some z)):=nr rfl
theorem HF {gi:Ev->R (List U×Ev)}{sg:U->Ev->R Ev}:gO gi sg s ρ=SR.of (gi ρ) λx=>bY sg s x.1 x.2:=nr rfl
theorem g_ {sg:U->Ev->R Ev}:bY sg s [] ρ=.nx ρ:=nr rfl
theorem cI:bY sg s (u::us) ρ=SR.of (sg u ρ) λρ1=>(s ρ1).turn (bY sg s us):=nr rfl
theorem ic:(SR.nx ρ).turn s=s ρ:=nr rfl
theorem Dv:(SR.ct ρ).turn s=s ρ:=nr rfl
theorem Dx:(SR.bk ρ).turn s=.nx ρ:=nr rfl
theorem mC:(SR.rt u ρ).turn s=.rt u ρ:=nr rfl
theorem Dy:jQ h s (n+1) ρ=SR.of (h ρ) λx=>if x.1=true then (s x.2).turn (jQ h s n) else .nx x.2:=nr rfl
def jB (u:U)(ρ:Ev):R (List U×Ev):=match u with
 | .lst us=>.ok (us,ρ)
 | .tup us=>.ok (us,ρ)
 | .scr us=>.ok (us,ρ)
 |_=>.stk
theorem HG:c_ g ρ=(g ρ).bind λx=>jB x.1 x.2:=nr rfl
theorem HH:jB (.lst us) ρ=.ok (us,ρ):=nr rfl
theorem BG:jB (.tup us) ρ=.ok (us,ρ):=nr rfl
theorem HJ:jB (.scr us) ρ=.ok (us,ρ):=nr rfl
def tZ (us:List U)(ρ:Ev):R (List U×Ev):=match us with
 | [.int j]=>if -1000000<=j/\j<=1000000 then .ok (aY 0 j.toNat,ρ) else .stk
 |_=>.stk
theorem HK:kY ga ρ=(ga ρ).bind λx=>tZ x.1 x.2:=nr rfl
theorem Pp {k:Int}:tZ [.int k] ρ=if -1000000<=k/\k<=1000000 then .ok (aY 0 k.toNat,ρ) else .stk:=nr rfl
def HL (us:List U)(ρ:Ev):R (U×Ev):=match us with
 | [.int j]=>if zu 0 j=true then .ok (.lst (aY 0 (j-0).toNat),ρ) else .stk
 |_=>.stk
def Dz (us:List U)(ρ:Ev):R (U×Ev):=match us with
 | [.int j]=>if zu 0 j=true then .ok (.tup (aY 0 (j-0).toNat),ρ) else .stk
 |_=>.stk
theorem HM:zv ga ρ=(ga ρ).bind λx=>HL x.1 x.2:=nr rfl
theorem HN:GW ga ρ=(ga ρ).bind λx=>Dz x.1 x.2:=nr rfl
theorem Ni {k:Int}(h0:0<=k)(h1:k<=1000000):zu 0 k=true:=by
 unfold zu;simp only[Z7,decide_eq_true_eq];lia
theorem DB (n:Nat)(h:n<=1000000):HL [.int n] ρ=.ok (.lst (aY 0 n),ρ):=by
 unfold HL;dsimp only;rw[hZ (Ni (by lia) (by lia)),show ((n:Int)-0).toNat=n by lia]
theorem Ld (n:Nat)(h:n<=1000000):Dz [.int n] ρ=.ok (.tup (aY 0 n),ρ):=by
 unfold Dz;dsimp only;rw[hZ (Ni (by lia) (by lia)),show ((n:Int)-0).toNat=n by lia]
theorem jW (n:Nat)(h:n<=1000000):tZ [.int n] ρ=.ok (aY 0 n,ρ):=by
 rw[Pp,hZ (by lia)];rfl
theorem Nj {gi:Ev->R (List U×Ev)}{js:List (Option Nat)}{sg:U->Ev->R Ev}:gE gi js sg h g ρ=(gi ρ).bind λx=>(AX (oE js sg h g x.2) x.1).bind λys=>.ok (.lst ys,x.2):=nr rfl
theorem Nk {G:Gm}{gi:Ev->R (List U×Ev)}{js:List (Option Nat)}{sg:U->Ev->R Ev}:KL G gi js sg h g ρ=(gi ρ).bind λx=>(rD G js sg h g x.1 x.2).bind λy=>.ok (.lst y.1,y.2):=nr rfl
theorem Nl {js:List (Option Nat)}{sg:U->Ev->R Ev}:oE js sg h g ρ u=(sg u (j3 js ρ)).bind λρi=>(h ρi).bind λc=>if c.1=true then (g ρi).bind λy=>.ok (some y.1) else .ok none:=nr rfl
theorem HP {G:Gm}{js:List (Option Nat)}{sg:U->Ev->R Ev}:rD G js sg h g [] ρ=.ok ([],ρ):=nr rfl
theorem Pq:rD G js sg h g (u::us) ρ=(sg u (j3 js ρ)).bind λρi=>(h ρi).bind λc=>if c.1=true then (g c.2).bind λy=>(rD G js sg h g us (wb G js y.2 ρ)).bind λr=>.ok (y.1::r.1,r.2) else rD G js sg h g us (wb G js c.2 ρ):=nr rfl
theorem HQ:cu ρ=.ok (true,ρ):=nr rfl
theorem Nm:ba i u ρ=.ok (ρ.set i (some u)):=nr rfl
theorem Sk:O_ ρ=.ok (.dct [] [],ρ):=nr rfl
theorem HU:cV m n s us=pY m (s (bO n us)):=nr rfl
theorem DC:pY m (.rt u ρ)=.ok u:=nr rfl
theorem HV:Bs n s us=Po (s (bO n us)):=nr rfl
theorem DH:Po (.rt u ρ)=io0 u ρ[0]? := nr rfl
theorem Nn:io0 u (some (some w))=.ok (u,w):=nr rfl
theorem zG {ρ:Ev}:j3 [] ρ=[]:=nr rfl
theorem wA {js:List (Option Nat)}:j3 (none::js) ρ=none::j3 js ρ:=nr rfl
theorem wB {js:List (Option Nat)}:j3 (some j::js) ρ=(ρ[j]?).getD none::j3 js ρ:=by
 unfold j3;rw[ZI];congr 1;dsimp only;cases ρ[j]? <;> rfl
end
section
variable {i j k:Int}{ws:List U}{w:U}{lo hi:Option Int}
theorem HW:jR (.int i) (.int j)=.ok (.int (i+j)):=nr rfl
theorem HX:jR (.tup us) (.tup ws)=if us.length+ws.length<=ZL then .ok (.tup (us++ws)) else .stk:=nr rfl
theorem HY:jR (.lst us) (.lst ws)=if us.length+ws.length<=ZL then .ok (.lst (us++ws)) else .stk:=nr rfl
theorem Np:rE (.int i) (.int j)=.ok (.int (i-j)):=nr rfl
theorem Nq:gH (.int i) (.int j)=if k_ i j=true then .ok (.int (i*j)) else .stk:=nr rfl
theorem BH:mX (.int i) (.int j)=if Bt i j=true then .ok (.int (i / j)) else .stk:=nr rfl
theorem Nr:vB (.int i) (.int j)=if decide (0<j)=true then .ok (.int (i % j)) else .stk:=nr rfl
theorem Nt:KQ (.int i) (.int j)=if KP i j=true then .ok (.int (i ^ j.toNat)) else .stk:=nr rfl
theorem Nu:KR (.int i)=.ok (.int (-i)):=nr rfl
theorem Sl:Uw (.int i) (.int j)=.ok (.bl (decide (i<j))):=nr rfl
theorem Sm:XR (.int i) (.int j)=.ok (.bl (decide (i<=j))):=nr rfl
theorem Sn:Ux (.int i) (.int j)=.ok (.bl (decide (j<i))):=nr rfl
theorem So:Vk (.int i) (.int j)=.ok (.bl (decide (j<=i))):=nr rfl
theorem wC:cC (.lst us) (.int i)=UB (pJ us i):=by show (match pJ us i with|some z=>R.ok z|none=>.stk)=_;cases pJ us i<;>rfl
theorem jd:cC (.tup us) (.int i)=UB (pJ us i):=by show (match pJ us i with|some z=>R.ok z|none=>.stk)=_;cases pJ us i<;>rfl
theorem Nv:cC (.scr us) (.int i)=UB (pJ us i):=by show (match pJ us i with|some z=>R.ok z|none=>.stk)=_;cases pJ us i<;>rfl
theorem Nw:UB (some u)=.ok u:=nr rfl
theorem Ny:Vm (.lst us) lo hi=.ok (.lst (EZ us lo hi)):=nr rfl
theorem Nz:Vm (.tup us) lo hi=.ok (.tup (EZ us lo hi)):=nr rfl
theorem NA:Vm (.scr us) lo hi=.ok (.lst (EZ us lo hi)):=nr rfl
theorem pZ:gf [.lst us]=.ok (.int us.length):=nr rfl
theorem lM:gf [.tup us]=.ok (.int us.length):=nr rfl
theorem HZ:gf [.scr us]=.ok (.int us.length):=nr rfl
theorem H9:cW [.lst us]=.ok (.tup us):=nr rfl
theorem H_:cW [.tup us]=.ok (.tup us):=nr rfl
theorem Ia:MM [.lst us]=.ok (.lst us):=nr rfl
theorem Ib:MM [.tup us]=.ok (.lst us):=nr rfl
theorem NB {a b:Bool}{f:Bool->Bool}:Vl f (.bl a) (.bl b)=.ok (.bl (f (decide (a=b)))):=nr rfl
theorem NC {f:Bool->Bool}:j5 f u .non=.ok (.bl (f (tT u))):=nr rfl
theorem Ic:C3 [.int i,.int j]=.ok (.int (if j<i then j else i)):=nr rfl
theorem Ie:C2 [.int i,.int j]=.ok (.int (if j>i then j else i)):=nr rfl
theorem Ig {f:Bool->Bool}:RX f u w=(zo u w).bind λb=>.ok (.bl (f b)):=nr rfl
theorem ft (n:Nat):pJ us (n:Int)=us[n]? := by
 unfold pJ Bf;by_cases h:n<us.length
 ·rw[hZ (by lia),hZ (by lia)];rfl
 ·rw[hZ (by lia),hV (by lia)];rw[aaY.mpr (by lia)];rfl
theorem ND:pJ us 0=us[0]? := ft 0
theorem NF:pJ us 1=us[1]? := ft 1
theorem NG:pJ us 2=us[2]? := ft 2
theorem Sq (h:0<us.length):Bf us.length 0=some 0:=by unfold Bf;rw[hZ (by lia),hZ (by lia)];rfl
theorem xB (h0:0<j)(h1:j<18446744073709551616):Bt i j=true:=by unfold Bt;simp[h0,h1]
theorem xC (h0:0<=i)(h1:i<18446744073709551616):k_ i j=true:=by
 unfold k_;simp only[ack,Z7,decide_eq_true_eq];exact .inl ⟨by lia,by lia⟩
theorem nH (h0:0<=j)(h1:j<18446744073709551616):k_ i j=true:=by
 unfold k_;simp only[ack,Z7,decide_eq_true_eq];exact .inr ⟨by lia,by lia⟩
end
end L2
namespace L2
theorem DJ {i:Nat}{w u:U}{us:List U}{ρ:Ev}:UC i w (.int 0) ρ (some (some (.lst (u::us))))=.nx (ρ.set i (some (.lst (w::us)))):=by
 rw[Ng (j:=0) (Sq (by rw[Z0];lia))];rfl
theorem DK {ρ:Ev}:Po (.nx ρ)=io0 .non ρ[0]? := rfl
theorem zH {G:Gm}{js:List (Option Nat)}{sg:U->Ev->R Ev}{ge:Ev->R (U×Ev)}{σ:Type}(ev:σ->Ev)(N:Nat)(I:List U->σ->Prop)
  (step:∀done u s,done.length<N->I done s->∃ρi y ρi' s',sg u (j3 js (ev s))=.ok ρi/\ge ρi=.ok (y,ρi')/\wb G js ρi' (ev s)=ev s'/\I (done++[y]) s') :
  ∀(us done:List U) (s:σ),done.length+us.length<=N->I done s->∃ys s',rD G js sg cu ge us (ev s)=.ok (ys,ev s')/\ys.length=us.length/\I (done++ys) s'
 | [],done,s,_,h=>⟨[],s,rfl,rfl,by rw[aaW];exact h⟩
 |u::us,done,s,hl,h=>by
  rw[Z0] at hl;obtain⟨ρi,y,ρi',s',e1,e2,e3,h'⟩:=step done u s (by lia) h;obtain⟨ys,N7,e4,e5,h''⟩:=zH ev N I step us (done++[y]) s' (by rw[Z3,abp];lia) h';refine⟨y::ys,N7,?_,by rw[Z0,Z0,e5],by rw[abD] at h'';exact h''⟩;rw[Pq,e1,Fi,HQ,Fi,hZ rfl,e2,Fi,e3,e4,Fi]
theorem cZ {s:Ev->SR}(I:Nat->Ev->Prop)(step:∀(i:Nat) (u:U) (ρ:Ev),us[i]? = some u->I i ρ->∃ρ1 ρ2,sg u ρ=.ok ρ1/\(s ρ1=.nx ρ2\/s ρ1=.ct ρ2)/\I (i+1) ρ2)(h:I 0 ρ) :
  ∃ρ',bY sg s us ρ=.nx ρ'/\I us.length ρ':=by
 have gen:∀(n i:Nat) (ρ:Ev),i+n=us.length->I i ρ->∃ρ',bY sg s (us.drop i) ρ=.nx ρ'/\I us.length ρ':=by
  intro n
  induction n with
  |zero=>
   intro i ρ hi h;have:i=us.length:=by lia
   subst this;rw[acw];exact⟨ρ,rfl,h⟩
  |succ n ih=>
   intro i ρ hi h;have vU:i<us.length:=by lia
   obtain⟨ρ1,ρ2,e1,e2,h2⟩:=step i us[i] ρ (ZH vU) h;obtain⟨ρ',e3,h3⟩:=ih (i+1) ρ2 (by lia) h2;refine⟨ρ',?_,h3⟩;rw[aaL vU,cI,e1,m6];rcases e2 with e2|e2<;>(rw[e2];exact e3)
 have:=gen us.length 0 ρ (by lia) h
 rwa [ac6] at this
theorem mD (ns:List Int):ja (ns.map .int)=some (ns.map .int):=by
 induction ns with
 |nil=>unfold ja;rfl
 |cons n ns ih=>rw[ZI];unfold ja;rw[ih];unfold kH;rfl
theorem t7 (ns:List Int):i_ (ns.map .int)=0:=by
 induction ns with
 |nil=>unfold i_;rfl
 |cons n ns ih=>rw[ZI];unfold i_;rw[ih];unfold eY;rfl
theorem wD:∀(ns ms:List Int),k7 (ns.map .int) (ms.map .int)=decide (ns=ms)
 | [],[]=>by unfold k7;simp
 | [],m::ms=>by simp[k7]
 |n::ns,[]=>by simp[k7]
 |n::ns,m::ms=>by
  rw[ZI,ZI];unfold k7 jA;rw[wD ns ms,aaw];simp
theorem Ih (ns ms:List Int):zo (.tup (ns.map .int)) (.tup (ms.map .int))=.ok (decide (ns=ms)):=by
 unfold zo;have e1:∀ns:List Int,kH (.tup (ns.map .int))=some (.tup (ns.map .int)):=λns=>by unfold kH;rw[mD];rfl
 rw[e1,e1];dsimp only;rw[hZ (by unfold eY;rw[t7];lia)];unfold jA;rw[wD]
def az (n:Nat):List Int:=(ZU n).map λi=>(i:Nat)
theorem lP (n:Nat):aY 0 n=(az n).map .int:=by
 unfold aY az;rw[ZY];exact Z2 λi _=>by show U.int (0+(i:Int))=.int _;rw[aeM]
theorem kJ (n:Nat):(az n).length=n:=by unfold az;rw[ZF,aaa]
theorem t8 {x:Int}:x∈az n↔0<=x/\x<n:=by
 unfold az;rw[ZO];constructor
 ·rintro⟨i,h,rfl⟩;have:=Z6.mp h;lia
 ·intro h;exact⟨x.toNat,Z6.mpr (by lia),by lia⟩
theorem BI (us:List U)(c:U->Bool):E3 [.lst (us.map λu=>.bl (c u))]=.ok (.bl (us.all c)):=by
 have e:us.map (λu=>U.bl (c u))=(us.map c).map .bl:=by rw[ZY];rfl
 unfold E3;dsimp only;rw[e,E2];dsimp only;rw[List.all_map];rfl
end L2
namespace L2
theorem inb (s:String){T:String}{u:U}{ρ:Ev}{b:Bool}(h:Uy u=s)(h1:¬s="script")(h2:jF s T=b):jV T u ρ=.ok (.bl b,ρ):=by unfold jV;rw[h,hV h1,h2]
theorem qD {ρ:Ev}:jV "bool" (.non) ρ=.ok (.bl false,ρ):=inb "NoneType" rfl (by decide) (by decide)
theorem t9 {ρ:Ev}:jV "int" (.non) ρ=.ok (.bl false,ρ):=inb "NoneType" rfl (by decide) (by decide)
theorem t_ {ρ:Ev}:jV "str" (.non) ρ=.ok (.bl false,ρ):=inb "NoneType" rfl (by decide) (by decide)
theorem qE {ρ:Ev}:jV "list" (.non) ρ=.ok (.bl false,ρ):=inb "NoneType" rfl (by decide) (by decide)
theorem oO {ρ:Ev}:jV "tuple" (.non) ρ=.ok (.bl false,ρ):=inb "NoneType" rfl (by decide) (by decide)
theorem qF {ρ:Ev}:jV "dict" (.non) ρ=.ok (.bl false,ρ):=inb "NoneType" rfl (by decide) (by decide)
theorem uc {b:Bool}{ρ:Ev}:jV "bool" (.bl b) ρ=.ok (.bl true,ρ):=inb "bool" rfl (by decide) (by decide)
theorem wF {b:Bool}{ρ:Ev}:jV "int" (.bl b) ρ=.ok (.bl true,ρ):=inb "bool" rfl (by decide) (by decide)
theorem wG {b:Bool}{ρ:Ev}:jV "str" (.bl b) ρ=.ok (.bl false,ρ):=inb "bool" rfl (by decide) (by decide)
theorem ud {b:Bool}{ρ:Ev}:jV "list" (.bl b) ρ=.ok (.bl false,ρ):=inb "bool" rfl (by decide) (by decide)
theorem qG {b:Bool}{ρ:Ev}:jV "tuple" (.bl b) ρ=.ok (.bl false,ρ):=inb "bool" rfl (by decide) (by decide)
theorem ue {b:Bool}{ρ:Ev}:jV "dict" (.bl b) ρ=.ok (.bl false,ρ):=inb "bool" rfl (by decide) (by decide)
theorem qH {i:Int}{ρ:Ev}:jV "bool" (.int i) ρ=.ok (.bl false,ρ):=inb "int" rfl (by decide) (by decide)
theorem uf {i:Int}{ρ:Ev}:jV "int" (.int i) ρ=.ok (.bl true,ρ):=inb "int" rfl (by decide) (by decide)
theorem ug {i:Int}{ρ:Ev}:jV "str" (.int i) ρ=.ok (.bl false,ρ):=inb "int" rfl (by decide) (by decide)
theorem qI {i:Int}{ρ:Ev}:jV "list" (.int i) ρ=.ok (.bl false,ρ):=inb "int" rfl (by decide) (by decide)
theorem oP {i:Int}{ρ:Ev}:jV "tuple" (.int i) ρ=.ok (.bl false,ρ):=inb "int" rfl (by decide) (by decide)
theorem qJ {i:Int}{ρ:Ev}:jV "dict" (.int i) ρ=.ok (.bl false,ρ):=inb "int" rfl (by decide) (by decide)
theorem qK {x:Str}{ρ:Ev}:jV "bool" (.str x) ρ=.ok (.bl false,ρ):=inb "str" rfl (by decide) (by decide)
theorem uh {x:Str}{ρ:Ev}:jV "int" (.str x) ρ=.ok (.bl false,ρ):=inb "str" rfl (by decide) (by decide)
theorem ui {x:Str}{ρ:Ev}:jV "str" (.str x) ρ=.ok (.bl true,ρ):=inb "str" rfl (by decide) (by decide)
theorem qL {x:Str}{ρ:Ev}:jV "list" (.str x) ρ=.ok (.bl false,ρ):=inb "str" rfl (by decide) (by decide)
theorem oQ {x:Str}{ρ:Ev}:jV "tuple" (.str x) ρ=.ok (.bl false,ρ):=inb "str" rfl (by decide) (by decide)
theorem qM {x:Str}{ρ:Ev}:jV "dict" (.str x) ρ=.ok (.bl false,ρ):=inb "str" rfl (by decide) (by decide)
theorem qN {us:List U}{ρ:Ev}:jV "bool" (.tup us) ρ=.ok (.bl false,ρ):=inb "tuple" rfl (by decide) (by decide)
theorem uj {us:List U}{ρ:Ev}:jV "int" (.tup us) ρ=.ok (.bl false,ρ):=inb "tuple" rfl (by decide) (by decide)
theorem uk {us:List U}{ρ:Ev}:jV "str" (.tup us) ρ=.ok (.bl false,ρ):=inb "tuple" rfl (by decide) (by decide)
theorem qO {us:List U}{ρ:Ev}:jV "list" (.tup us) ρ=.ok (.bl false,ρ):=inb "tuple" rfl (by decide) (by decide)
theorem oR {us:List U}{ρ:Ev}:jV "tuple" (.tup us) ρ=.ok (.bl true,ρ):=inb "tuple" rfl (by decide) (by decide)
theorem qP {us:List U}{ρ:Ev}:jV "dict" (.tup us) ρ=.ok (.bl false,ρ):=inb "tuple" rfl (by decide) (by decide)
theorem qQ {us:List U}{ρ:Ev}:jV "bool" (.lst us) ρ=.ok (.bl false,ρ):=inb "list" rfl (by decide) (by decide)
theorem um {us:List U}{ρ:Ev}:jV "int" (.lst us) ρ=.ok (.bl false,ρ):=inb "list" rfl (by decide) (by decide)
theorem uo {us:List U}{ρ:Ev}:jV "str" (.lst us) ρ=.ok (.bl false,ρ):=inb "list" rfl (by decide) (by decide)
theorem qR {us:List U}{ρ:Ev}:jV "list" (.lst us) ρ=.ok (.bl true,ρ):=inb "list" rfl (by decide) (by decide)
theorem oT {us:List U}{ρ:Ev}:jV "tuple" (.lst us) ρ=.ok (.bl false,ρ):=inb "list" rfl (by decide) (by decide)
theorem qT {us:List U}{ρ:Ev}:jV "dict" (.lst us) ρ=.ok (.bl false,ρ):=inb "list" rfl (by decide) (by decide)
theorem qU {ρ:Ev}:jV "bool" (.dct [] []) ρ=.ok (.bl false,ρ):=inb "dict" rfl (by decide) (by decide)
theorem uq {ρ:Ev}:jV "int" (.dct [] []) ρ=.ok (.bl false,ρ):=inb "dict" rfl (by decide) (by decide)
theorem ur {ρ:Ev}:jV "str" (.dct [] []) ρ=.ok (.bl false,ρ):=inb "dict" rfl (by decide) (by decide)
theorem qV {ρ:Ev}:jV "list" (.dct [] []) ρ=.ok (.bl false,ρ):=inb "dict" rfl (by decide) (by decide)
theorem oU {ρ:Ev}:jV "tuple" (.dct [] []) ρ=.ok (.bl false,ρ):=inb "dict" rfl (by decide) (by decide)
theorem qW {ρ:Ev}:jV "dict" (.dct [] []) ρ=.ok (.bl true,ρ):=inb "dict" rfl (by decide) (by decide)
theorem aE:type_of% @MR/\type_of% @Hk/\type_of% @WB/\type_of% @Fi/\type_of% @MS/\type_of% @m6/\type_of% @R9/\type_of% @WC/\type_of% @MT/\type_of% @Hl/\type_of% @MU/\type_of% @Hm/\type_of% @MV/\type_of% @R_/\type_of% @MW/\type_of% @Sa/\type_of% @Dm/\type_of% @Sb/\type_of% @Hn/\type_of% @Dn/\type_of% @Ho/\type_of% @Hq/\type_of% @Sd/\type_of% @Se/\type_of% @MZ/\type_of% @Dr/\type_of% @Sg/\type_of% @M5/\type_of% @M6/\type_of% @WH/\type_of% @Hr/\type_of% @Ds/\type_of% @M7/\type_of% @Dt/\type_of% @Sh/\type_of% @Hs/\type_of% @Ht/\type_of% @Du/\type_of% @Hu/\type_of% @M8/\type_of% @Hv/\type_of% @Hw/\type_of% @Hx/\type_of% @Hy/\type_of% @Hz/\type_of% @M9/\type_of% @M_/\type_of% @Na/\type_of% @Nb/\type_of% @HA/\type_of% @Nc/\type_of% @Nf/\type_of% @HB/\type_of% @HC/\type_of% @Nh/\type_of% @HD/\type_of% @HF/\type_of% @g_/\type_of% @ic/\type_of% @Dv/\type_of% @Dx/\type_of% @mC/\type_of% @HG/\type_of% @HH/\type_of% @BG/\type_of% @HJ/\type_of% @HK/\type_of% @HM/\type_of% @HN/\type_of% @Nj/\type_of% @Nk/\type_of% @Nl/\type_of% @HP/\type_of% @HQ/\type_of% @Nm/\type_of% @Sk/\type_of% @HU/\type_of% @DC/\type_of% @HV/\type_of% @DH/\type_of% @Nn/\type_of% @zG/\type_of% @wA/\type_of% @wB/\type_of% @HW/\type_of% @HX/\type_of% @HY/\type_of% @Np/\type_of% @Nq/\type_of% @BH/\type_of% @Nr/\type_of% @Nt/\type_of% @Nu/\type_of% @Sl/\type_of% @Sm/\type_of% @Sn/\type_of% @So/\type_of% @wC/\type_of% @jd/\type_of% @Nv/\type_of% @Nw/\type_of% @Ny/\type_of% @Nz/\type_of% @NA/\type_of% @pZ/\type_of% @lM/\type_of% @HZ/\type_of% @H9/\type_of% @H_/\type_of% @Ia/\type_of% @Ib/\type_of% @NB/\type_of% @NC/\type_of% @Ic/\type_of% @Ie/\type_of% @Ig/\type_of% @ND/\type_of% @NF/\type_of% @NG/\type_of% @MX/\type_of% @qD/\type_of% @t9/\type_of% @t_/\type_of% @qE/\type_of% @oO/\type_of% @qF/\type_of% @uc/\type_of% @wF/\type_of% @wG/\type_of% @ud/\type_of% @qG/\type_of% @ue/\type_of% @qH/\type_of% @uf/\type_of% @ug/\type_of% @qI/\type_of% @oP/\type_of% @qJ/\type_of% @qK/\type_of% @uh/\type_of% @ui/\type_of% @qL/\type_of% @oQ/\type_of% @qM/\type_of% @qN/\type_of% @uj/\type_of% @uk/\type_of% @qO/\type_of% @oR/\type_of% @qP/\type_of% @qQ/\type_of% @um/\type_of% @uo/\type_of% @qR/\type_of% @oT/\type_of% @qT/\type_of% @qU/\type_of% @uq/\type_of% @ur/\type_of% @qV/\type_of% @oU/\type_of% @qW/\type_of% @DJ/\type_of% @DK:=
 ⟨@MR,@Hk,@WB,@Fi,@MS,@m6,@R9,@WC,@MT,@Hl,@MU,@Hm,@MV,@R_,@MW,@Sa,@Dm,@Sb,@Hn,@Dn,@Ho,@Hq,@Sd,@Se,@MZ,@Dr,@Sg,@M5,@M6,@WH,@Hr,@Ds,@M7,@Dt,@Sh,@Hs,@Ht,@Du,@Hu,@M8,@Hv,@Hw,@Hx,@Hy,@Hz,@M9,@M_,@Na,@Nb,@HA,@Nc,@Nf,@HB,@HC,@Nh,@HD,@HF,@g_,@ic,@Dv,@Dx,@mC,@HG,@HH,@BG,@HJ,@HK,@HM,@HN,@Nj,@Nk,@Nl,@HP,@HQ,@Nm,@Sk,@HU,@DC,@HV,@DH,@Nn,@zG,@wA,@wB,@HW,@HX,@HY,@Np,@Nq,@BH,@Nr,@Nt,@Nu,@Sl,@Sm,@Sn,@So,@wC,@jd,@Nv,@Nw,@Ny,@Nz,@NA,@pZ,@lM,@HZ,@H9,@H_,@Ia,@Ib,@NB,@NC,@Ic,@Ie,@Ig,@ND,@NF,@NG,@MX,@qD,@t9,@t_,@qE,@oO,@qF,@uc,@wF,@wG,@ud,@qG,@ue,@qH,@uf,@ug,@qI,@oP,@qJ,@qK,@uh,@ui,@qL,@oQ,@qM,@qN,@uj,@uk,@qO,@oR,@qP,@qQ,@um,@uo,@qR,@oT,@qT,@qU,@uq,@ur,@qV,@oU,@qW,@DJ,@DK⟩
end L2
namespace Hc.Zp
abbrev UD (h:acz)(a:Z_):acz:=h.push {cls:=.type "tuple_iterator",data:=.fields #[.ref a,.int 0 0]}
abbrev WK (h:acz)(a:Z_):acz:=(UD h a).push {cls:=.type "enumerate",data:=.fields #[.none,.bool false,.ref h.objs.size,aeg 0,.none,.none]}
theorem Fj (a:Z_)(xs:Array ZR):Meets (Builtin.«enumerate.__new__» ⟨[.type "enumerate",.ref a],[]⟩) (λ_ R s=>s.heap.IsTuple a xs/\R (.ok (.ret (.ref (UD s.heap a).objs.size))) {s with heap:=WK s.heap a}):=
 .of_wp λprog w A R s h=>by
  obtain⟨hp,g,d,tk,os⟩:=s;obtain⟨g1,h⟩:=h;have sb:=sub_enumerate;have q1:Heap.IsTuple (Shared.heap ⟨hp,g,d,tk,os⟩) a xs:=g1;obtain⟨⟨c,dct,dt,sl⟩,ho,_⟩:=id g1;wp_walk using abQ ho;refine wpAny_stack_any λst=>ZJ ?_;split
  ·rename_i c _ _ _ _ _;cases (c==Value.type "enumerate")
   ·wp_walk using abQ ho,ads q1;exact⟨_,rfl,h⟩
   ·wp_walk using abQ ho,ads q1;exact⟨_,rfl,h⟩
  ·wp_walk using abQ ho,ads q1;exact⟨_,rfl,h⟩
section
variable {A:aaC}
theorem BJ {e:Z_}{xs:Array ZR}{x old:ZR}(he:IsEnum s.heap e it i old)(hi:s.heap.IsTupleIter it a i)(ha:s.heap.IsTuple a xs)(hx:xs[i]? = some x)(A6:e≠it)(hQ:∀h',IsEnumOut h' e it ((i:Int)+1) x s.heap.objs.size->h'.IsTupleIter it a (i+1)->IsPair h' s.heap.objs.size (.int i s.toks) x->(∀b o,b≠e->b≠it->s.heap.get? b=some o->h'.get? b=some o)->Q (.ref s.heap.objs.size) {s with heap:=h',toks:=s.toks+1}) :
  aac (aan prog w) A (Builtin.«enumerate.__next__» ⟨[.ref e],[]⟩) (λfin s'=>∃v,fin=.done (.ret v)/\Q v s') E s:=by
 obtain⟨hp,g,d,tk,os⟩:=s;show aac _ _ (field (.ref e) 2 >>= _) _ _ _;refine ZE (abF he rfl (x:=.ref it) rfl (ZE (BF hi ha hx λw1 n1 b1=>?_)))
 replace b1:aa0 it hp w1:=b1
 have e1:IsEnum w1 e it i old:=(b1.2 e A6).trans he;show aac _ _ (field (.ref e) 3 >>= _) _ _ ⟨w1,g,d,tk,os⟩;refine ZE (abF e1 rfl (x:=aeg i) rfl ?_);show aac _ _ (field (.ref e) 4 >>= _) _ _ ⟨w1,g,d,tk,os⟩;refine ZE (abF e1 rfl (x:=.none) rfl ?_);show aac _ _ (mkInt i >>= _) _ _ ⟨w1,g,d,tk,os⟩;refine ZE (wpAny_mkInt ?_);show aac _ _ (aeN (.ref e) 3 (aeg ((i:Int)+1)) >>= _) _ _ ⟨w1,g,d,tk+1,os⟩;refine ZE (aa3 e1 (by simp) λw2 e2 b2=>?_)
 replace b2:aa0 e w1 w2:=b2
 replace e2:IsEnum w2 e it ((i:Int)+1) old:=e2
 show aac _ _ (aeN (.ref e) 4 .none >>= _) _ _ ⟨w2,g,d,tk+1,os⟩;refine ZE (aa3 e2 (by simp) λw3 e3 b3=>?_)
 replace b3:aa0 e w2 w3:=b3
 replace e3:IsEnum w3 e it ((i:Int)+1) old:=e3
 show aac _ _ (newTuple [.int i tk,x] >>= _) _ _ ⟨w3,g,d,tk+1,os⟩;refine ZE (wpAny_newTuple ?_);have sz:w3.objs.size=hp.objs.size:=by rw[b3.1,b2.1,b1.1]
 have le:e<hp.objs.size:=Z4 he;have t4:IsPair (w3.push {cls:=.type "tuple",data:=.seq #[.int i tk,x]}) w3.objs.size (.int i tk) x:=ZW _ rfl;have e4:IsEnum (w3.push {cls:=.type "tuple",data:=.seq #[.int i tk,x]}) e it ((i:Int)+1) old:=ZP _ e3;have k4:∀b o,b≠e->w1.get? b=some o->(w3.push {cls:=.type "tuple",data:=.seq #[.int i tk,x]}).get? b=some o:=λb o c y=>ZP _ (b3.extBut b o c (b2.extBut b o c y));show aac _ _ (adj (.ref e) >>= _) _ _ _;generalize w3.push {cls:=.type "tuple",data:=.seq #[.int i tk,x]}=w4 at t4 e4 k4;rw[sz] at t4 ⊢;refine ZE ?_;unfold adj;refine ZE (abF e4 rfl (x:=.none) rfl (ZJ ?_));simp only[if_true];refine ZE (wpAny_rule (ZE (abF e4 rfl (x:=old) rfl (ZE (aa3 e4 (by simp) λw5 e5 b5=>?_)))))
 replace e5:IsEnum w5 e it ((i:Int)+1) x:=e5
 show aac _ _ (ac7 (.ref e) (.ref hp.objs.size) >>= _) _ _ ⟨w5,g,d,tk+1,os⟩;refine ZE ?_;unfold ac7;refine ZE (aa3 e5 (by simp) λw6 e6 b6=>?_)
 replace e6:IsEnumOut w6 e it ((i:Int)+1) x hp.objs.size:=e6
 refine aa3 e6 (by simp) λw7 e7 b7=>?_;have up:∀b o,b≠e->w4.get? b=some o->w7.get? b=some o:=λb o c y=>b7.extBut b o c (b6.extBut b o c (b5.extBut b o c y));exact ZE (wpAny_letGo (ZJ ⟨_,rfl,hQ w7 e7 (n1.at λo y=>up _ o A6.symm (k4 _ o A6.symm y)) (up _ _ (ab9 le) t4) λb o c1 c2 y=>up b o c1 (k4 b o c1 (b1.extBut b o c2 y))⟩))
theorem BK {e:Z_}{xs:Array ZR}{x old:ZR}{Q:Option ZR->Z5->Prop}(he:IsEnum s.heap e it i old)(hi:s.heap.IsTupleIter it a i)(ha:s.heap.IsTuple a xs)(hx:xs[i]? = some x)(A6:e≠it)(hQ:∀h',IsEnumOut h' e it ((i:Int)+1) x s.heap.objs.size->h'.IsTupleIter it a (i+1)->IsPair h' s.heap.objs.size (.int i s.toks) x->(∀b o,b≠e->b≠it->s.heap.get? b=some o->h'.get? b=some o)->Q (some (.ref s.heap.objs.size)) {s with heap:=h',toks:=s.toks+1}) :
  aac (aan prog w) A (adm (.ref e)) Q E s:=by
 have hT:s.TypeIs (.ref e) "enumerate":=⟨_,he,rfl⟩;unfold adm;exact ZE (aca (aaG (name:=aay "__next__") hT acO (aat acO hT F.entry_enumerate_next (BJ he hi ha hx A6 λh' c1 c2 c3 c4=>ZJ (hQ h' c1 c2 c3 c4)) (F.args_enumerate_next_1 _))))
theorem BL {e:Z_}{xs:Array ZR}{old:ZR}{Q:Option ZR->Z5->Prop}(hh:A.handled=none)(he:IsEnum s.heap e it i old)(hi:s.heap.IsTupleIter it a i)(ha:s.heap.IsTuple a xs)(hx:xs[i]? = none)(hQ:∀h',Heap.ExtBut it s.heap h'->Q none {s with heap:=h'}):aac (aan prog w) A (adm (.ref e)) Q E s:=by
 have hT:s.TypeIs (.ref e) "enumerate":=⟨_,he,rfl⟩;unfold adm;refine ZE (aca (aaG (name:=aay "__next__") hT acO (aat acO hT F.entry_enumerate_next ?_ (F.args_enumerate_next_1 _))));show aac _ _ (field (.ref e) 2 >>= _) _ _ _;refine ZE (abF he rfl (x:=.ref it) rfl (ZE (Fh hh hi ha hx λh' x b1 ⟨o,ho,hc⟩=>?_)));exact ZE (acv (T:="StopIteration") (b:=true) ⟨o,ho,hc⟩ aeR (ZJ (hQ _ b1)))
theorem BM {xs:Array ZR}(ha:s.heap.IsTuple a xs)(h:∀h',IsEnum h' (s.heap.objs.size+1) s.heap.objs.size 0 .none->h'.IsTupleIter s.heap.objs.size a 0->(∀b o,s.heap.get? b=some o->h'.get? b=some o)->Q (.ref (s.heap.objs.size+1)) {s with heap:=h'}) :
  aac (aan prog w) A (call (.type "enumerate") [.ref a]) Q E s:=by
 refine callType_new F.called_enumerate (by decide) (F.typeCall_enumerate_1 _) (F.newCall_enumerate_1 _) (λobj=>F.args_object_init_2 obj _) F.entry_enumerate_new (Fj a xs) ⟨ha,?_⟩;have z1:(UD s.heap a).objs.size=s.heap.objs.size+1:=abJ ..;have e1:(WK s.heap a).get? (UD s.heap a).objs.size=some _:=ZW _ rfl;show _/\_;rw[z1] at e1 ⊢;refine⟨⟨_,e1,rfl⟩,h _ e1 ?_ λb o x=>ZP _ (ZP _ x)⟩;exact⟨_,ZP _ (ZW _ rfl),rfl,rfl⟩
end
end Hc.Zp
namespace L2
open Hc.Zp
def WL (K:ZN)(a:Z_):It:=
  ⟨λi H=>∃xs x,iC K H a xs/\xs[i]? = some x,
   λi H v H'=>∃T x,v=.ref T/\H T=none/\H'=cH H T (.tup [.int i,x])/\∀xs,iC K H a xs->xs[i]? = some x,
   λi H=>∃xs,iC K H a xs/\xs.length<=i⟩
theorem Fl {z:Z_}(D:z≠it) :
  yV P w K (.Tuple elts kt tp) (WL K a) [z,it] z (λi h=>(∃old,IsEnum h z it i old)/\h.IsTupleIter it a i) where
 mem:=by simp
 obj:=λi h ⟨⟨old,hz⟩,h1⟩ b hb=>by
  obtain⟨o1,e1,_,d1⟩:=h1;simp only[ZX,abl,or_false] at hb;rcases hb with rfl|rfl
  ·exact⟨_,hz,λv e=>by cases e⟩
  ·exact⟨o1,e1,λv e=>by rw[d1] at e;cases e⟩
 keep:=λi h h' ⟨⟨old,hz⟩,h1⟩ k=>⟨⟨old,k z (by simp) _ hz⟩,h1.at λo e=>k it (by simp) o e⟩
 item:=by
  intro X hP hw hK hc i pins s σ H E I hf st hg;subst hP hw hK;obtain⟨⟨old,hz⟩,h1⟩:=st;obtain⟨xs,x,q1,hx⟩:=hg;obtain⟨is1,v1,g1,_⟩:=I.tuple q1;obtain⟨u1,jz,r1⟩:=v1.get hx;obtain⟨o1,e1,_⟩:=id h1;have lz:=Z4 hz;have l1:=Z4 e1;refine BK hz h1 g1 (x:=u1) (by simpa using jz) D λh' c1 c3 c5 kp=>⟨_,rfl,?_⟩;refine wpAny_letOwnedTupleGo_enum c1 λEx z2 sb=>?_;have J6:IsPair Ex s.heap.objs.size (.int i s.toks) u1:=sb.extBut _ _ (ab9 lz) c5;have V7:∀b o,b∉[z,it]->s.heap.get? b=some o->Ex.get? b=some o:=λb o hb e=>by
   simp only[ZX,abl,or_false,not_or] at hb;exact sb.extBut _ _ hb.1 (kp b o hb.1 hb.2 e)
  have I2:aL X pins σ (cH H s.heap.objs.size (.tup [.int i,x])) {s with heap:=Ex,toks:=s.toks+1}:=I.turnNew hf V7 (ZS _) ⟨by rw[abv];simp,[.int i s.toks,u1],.cons ⟨_,rfl⟩ (.cons r1 .nil),⟨_,J6,rfl,_,rfl⟩,_,J6⟩;refine⟨.ref s.heap.objs.size,_,I2,rfl,⟨_,x,rfl,I.hok.fresh (ZS _),rfl,λzs hq=>by rw[I.tuple_inj hq q1];exact hx⟩,⟨⟨_,z2⟩,c3.at λo e=>sb.extBut _ _ D.symm e⟩,λb hb=>?_⟩;have hn:b≠s.heap.objs.size:=by
   simp only[ZX,abl,or_false] at hb;rcases hb with rfl|rfl
   ·exact aah lz
   ·exact aah l1
  rw[a_ hn];exact (hf b hb).1
 done:=by
  intro X hP hw hK hc i pins s σ H E I hf st hg;subst hP hw hK;obtain⟨⟨old,hz⟩,h1⟩:=st;obtain⟨xs,q1,he⟩:=hg;obtain⟨is1,v1,g1,_⟩:=I.tuple q1;have n1:=v1.length;refine BL (I.ok.hd hc) hz h1 g1 (by simp;lia) λh' kp=>⟨rfl,I.turneds (t':=s.toks) hf λb o hb e=>?_⟩;simp only[ZX,abl,or_false,not_or] at hb;exact kp b o hb.2 e
 self:=λ_ _ _ _ _ ⟨⟨_,z⟩,_⟩ h=>wpAny_pyIter_enum z h
section
variable {p pos:Pos}{a:abH}
theorem xD:aaO "enumerate"=some (.type "enumerate"):=by decide+kernel
def Sr (K:ZN)(ta:TA):TI:=λσ H R=>ta σ H λvs H1=>∃a xs,vs=[.ref a]/\iC K H1 a xs/\R (WL K a) H1
theorem Le {ta:TA}(hg:Gl X "enumerate")(hm:X.mg "enumerate"=none)(ha:PA X [a] ta)(hs:Z8 [a] X.env=[(false,acD a X.env)]:=by rfl) :
  PI X (.Tuple elts kt tp) (.Call (.Name "enumerate" p) [a] [] pos) (Sr X.K ta):=by
 intro pins s σ H R I h;refine Call_ (sT I hg hm xD (abY (fQ (ha pos pins s σ H _ I h) λus s1 ⟨vs,H1,I1,r1,q1⟩=>?_) (by rw[hs];rfl) (by rfl)));obtain⟨a1,xs,rfl,g1,q⟩:=q1;cases r1 with
 |cons r rr=>
  cases rr;cases r;obtain⟨is1,v1,m1,_⟩:=I1.tuple g1;refine BM m1 λh' z1 z2 kp=>wpAny_pyIter_enum z1 ?_;refine⟨_,[s1.heap.objs.size+1,s1.heap.objs.size],_,_,H1,rfl,I1.kept (t':=s1.toks) λb o e=>kp b o e,Fl (Nat.succ_ne_self _),⟨⟨_,z1⟩,z2⟩,λb hb=>?_,q⟩;have hb:s1.heap.objs.size<=b:=by
   simp only[ZX,abl,or_false] at hb;rcases hb with rfl|rfl
   ·exact ab8 _ _
   ·exact ZS _
  exact I1.fpOk hb (I1.hok.fresh hb)
end
def zI:Nat->List U->List U
 |_,[]=>[]
 |i,u::us=>.tup [.int i,u]::zI (i+1) us
theorem p6:∀(us:List U) (i:Nat),(zI i us).length=us.length
 | [],_=>rfl
 |_::us,i=>congrArg (·+1) (p6 us (i+1))
theorem wH:∀(us:List U) (i k:Nat) (w:U),(zI i us)[k]? = some w->∃u,us[k]? = some u/\w=.tup [.int (i+k:Nat),u]
 | [],_,_,_,h=>by cases h
 |u::us,i,0,w,h=>⟨u,rfl,by cases h;rfl⟩
 |u::us,i,k+1,w,h=>by
  obtain⟨u',h1,h2⟩:=wH us (i+1) k w h;exact⟨u',h1,by rw[h2,show i+1+k=i+(k+1) by lia]⟩
def Ii (ga:Ev->R (List U×Ev)):Ev->R (List U×Ev):=λρ=>(ga ρ).bind λx=>match x.1 with
 | [.tup us]=>.ok (zI 0 us,x.2)
 |_=>.stk
section
variable {p1 pos:Pos}{a:abH}{b1:Bool}{ga:Ev->R (List U×Ev)}
theorem Lf (ha:DA X G [a] b1 false ga)(hm:X.mg "enumerate"=none)(hg:Gl X "enumerate":=by rfl)(hs:Z8 [a] X.env=[(false,acD a X.env)]:=by rfl) :
  DI X G (.Tuple elts kt tp) (.Call (.Name "enumerate" p1) [a] [] pos) b1 false (Ii ga):=⟨(Le hg hm ha.un hs).to λσ H RR h00=>by
 obtain⟨Z,A,ρ,q,f⟩:=h00;unfold Ii at f;cases e1:ga ρ with
 |stk=>rw[e1] at f;exact f.elim
 |exc=>rw[e1] at f;exact f.elim
 |ok y=>
  obtain⟨us,ρ1⟩:=y;rw[e1] at f;dsimp only[L2.R.bind] at f;refine⟨Z,A,ρ,q,?_⟩;rw[e1];intro vs H1 q1 x1 s1 vm;split at f
  ·rename_i VZ ρ' e2;split at e2
   ·rename_i as;cases e2;have r:=vm.rps;unfold aH at r;obtain⟨v,vr,rfl,r1,r2⟩:=r;unfold aH at r2;subst r2;unfold Rp at r1;obtain⟨a1,xs,rfl,k1,n1,z1⟩:=r1;refine⟨a1,xs,rfl,iC.of k1,f _ H1 q1 x1 s1 ⟨by rw[p6];exact n1,λH2 A' hx A7=>?_⟩⟩;rw[hV ZM] at hx;have QM:iC X.K H2 a1 xs:=iC.of (hx a1 _ (λy=>by have:=q1.mu a1 y;rw[k1] at this;exact this) k1);have w1:=z1.re q1.mu hx A7;refine⟨λi u hu=>?_,⟨xs,QM,by rw[p6,←z1.length];exact ZS _⟩⟩;obtain⟨ua,hA,rfl⟩:=wH as 0 i u hu;rw[abd];obtain⟨x,hx1,px⟩:=w1.get hA;refine⟨⟨xs,x,QM,hx1⟩,λx' H' yl=>?_⟩;obtain⟨T,x2,rfl,hT,rfl,g1⟩:=yl;have ex:x2=x:=by have:=g1 xs QM;rw[hx1] at this;cases this;rfl
    subst ex;have sm:=cR hT (.tup [.int i,x2]);refine⟨sm,?_⟩;unfold Rp;exact⟨T,_,rfl,bj,by have:ZL=16777216:=rfl;rw[this];simp,aH.cons dN (aH.cons (px.same sm) aH.nil)⟩
   ·cases e2
  ·exact f.elim⟩
end
end L2
namespace Hc.Dw
def lQ (h:acz)(a:Z_)(ds:Array ady)(ep:Nat):Prop:=∃o,h.get? a=some o/\o.ExactDict/\o.data=.dict ds ep
theorem lQ.ty {ds:Array ady}(x:lQ s.heap a ds ep):s.TypeIs (.ref a) "dict":=by
 obtain⟨o,e,c,_⟩:=x;exact⟨o,e,c.1⟩
theorem lQ.at {ds:Array ady}(x:lQ h a ds ep)(e:∀o,h.get? a=some o->h'.get? a=some o):lQ h' a ds ep:=by
 obtain⟨o,q,r⟩:=x;exact⟨o,e o q,r⟩
theorem lQ.lt {ds:Array ady}(x:lQ h a ds ep):a<h.objs.size:=by obtain⟨o,e,_⟩:=x;exact Z4 e
section
variable {A:aaC}{d vw:Z_}{ds:Array ady}
theorem Ss (lo:(d==abC)=false)(x:lQ s.heap d ds ep)(q:Q (.ref s.heap.objs.size) {s with heap:=s.heap.push {cls:=.type "dict_keyiterator",data:=.fields #[.ref d,.int 0 0,.int ds.size 0,.int ep 0]}}):aac (aan prog w) A (pyIter (.ref d)) Q E s:=by
 have ty:=x.ty;obtain⟨od,e1,e2,e3⟩:=x;refine ac1 ty F.slot_dict_iter (aat F.slot_dict_iter ty F.entry_dict_iter ?_ (F.args_dict_iter_1 _));unfold Builtin.«dict.__iter__»;refine ZE ?_;unfold Builtin.Dict.dictSlotNone;refine ZE (wpAny_notOrdered_dict ty ?_);change aac _ _ (pure (Value.ref d)) _ _ s;refine ZJ ?_;change aac _ _ (acP d >>= _) _ _ s;unfold acP;rw[hV (by rw[lo];exact ZM)];refine ZE (ZJ (ZE (aco e1 e3 (ZE (acQ e1 e3 ?_)))));refine ZE (aav (ZJ ⟨_,rfl,"dict_keyiterator",_,⟨_,ZW _ rfl,rfl⟩,F.slot_dict_keyiterator_next.lookup,?_⟩));simpa [aeg] using q
theorem Su {Q:Option ZR->Z5->Prop}(t:s.heap.IsKeyIter it d i ds.size ep)(x:lQ s.heap d ds ep)(hi:i<ds.size)
  (q:∀h',h'.IsKeyIter it d (i+1) ds.size ep->aa0 it s.heap h'->Q (some ds[i].key) {s with heap:=h'}):aac (aan prog w) A (adm (.ref it)) Q E s:=by
 have ty:=t.typeIs;obtain⟨oi,i1,i2,i3⟩:=t;obtain⟨od,e1,e2,e3⟩:=x;unfold adm;refine ZE (aca (aaG (name:=aay "__next__") ty abV (aat abV ty aec ?_ (ad8 _))));refine ZE (ZJ (ZE (ZE ?_)))
 first|refine ZE (abT ty (ZJ ?_))|refine ZE (acp ty (ZJ ?_))
 refine ZE (ac8 i1 i3 ?_);simp only[show abt "dict_keyiterator"=false by decide,aaq,if_false];change aac _ _ (if (Value.ref d==Value.none)=true then _ else _) _ _ s;rw[hV (show ¬((Value.ref d==Value.none)=true) from ZM)];refine ZE (ZJ (ZE (aco e1 e3 ?_)));rw[hV (by simp)];refine ZE (ZJ (ZE (acQ e1 e3 ?_)));rw[hV (by simp)];refine ZJ ?_;simp only[show ¬((i:Int)<0) from by lia,if_false,aar,aae hi];refine ZE ?_
 first|refine ZE (abT ty (ZJ ?_))|refine ZE (acp ty (ZJ ?_))
 refine ZE (wpAny_isOneOf_keyiter ty ?_);change aac _ _ (aeN (.ref it) 1 (aeg ((i:Int)+1)) >>= _) _ _ s;refine ZE (ace i1 i3 (by simp) ?_);have t':(s.heap.update it (Obj.mapFields (·.setIfInBounds 1 (aeg ((i:Int)+1))))).IsKeyIter it d (i+1) ds.size ep:=
  ⟨_,abL _ i1 (acN (aby i3 _)),(adX ..).trans i2,by rw[aby i3];simp[aeg]⟩
 refine ZE (aa9 (ZE ?_));refine wpAny_isOneOf_keyiter (s:={s with heap:=s.heap.update it (Obj.mapFields (·.setIfInBounds 1 (aeg ((i:Int)+1))))}) t'.typeIs ?_;change aac _ _ (pure ds[i].key) _ _ _;exact ZJ (ZJ ⟨_,rfl,ZJ (q _ t' (aaU ..))⟩)
theorem Sv {Q:Option ZR->Z5->Prop}(hh:A.handled=none)(t:s.heap.IsKeyIter it d i ds.size ep)(x:lQ s.heap d ds ep)(hi:ds.size<=i)
  (q:∀h',Heap.ExtBut it s.heap h'->Q none {s with heap:=h'}):aac (aan prog w) A (adm (.ref it)) Q E s:=by
 have ty:=t.typeIs;obtain⟨oi,i1,i2,i3⟩:=t;obtain⟨od,e1,e2,e3⟩:=x;unfold adm;refine ZE (aca (aaG (name:=aay "__next__") ty abV (aat abV ty aec ?_ (ad8 _))));refine ZE (ZJ (ZE (ZE ?_)))
 first|refine ZE (abT ty (ZJ ?_))|refine ZE (acp ty (ZJ ?_))
 refine ZE (ac8 i1 i3 ?_);simp only[show abt "dict_keyiterator"=false by decide,aaq,if_false];change aac _ _ (if (Value.ref d==Value.none)=true then _ else _) _ _ s;rw[hV (show ¬((Value.ref d==Value.none)=true) from ZM)];refine ZE (ZJ (ZE (aco e1 e3 ?_)));rw[hV (by simp)];refine ZE (ZJ (ZE (acQ e1 e3 ?_)));rw[hV (by simp)];refine ZJ ?_;simp only[show ¬((i:Int)<0) from by lia,if_false,aar,ab3 hi];refine ZE ?_
 first|refine ZE (abT ty (ZJ ?_))|refine ZE (acp ty (ZJ ?_))
 change aac _ _ (aeN (.ref it) 0 .none >>= _) _ _ s;refine ZE (ace i1 i3 (by simp) ?_);change aac _ _ (newExc (.type "StopIteration") [] >>= _) _ _ _;refine ZE ?_;simp only[newExc,newTuple];refine ZE (aav (hd:=by size_fits) ?_);refine ZE (m:=acf _ _) (acM (a:=Value.none) (by first|rfl|(simp only[acf];rfl)) (aav (hd:=by size_fits) ?_));simp only[raiseNew];refine ZE (wpAny_handled ?_);rw[show A.in1.handled=none from hh];refine ZE (ZJ (wpAny_throw ?_));refine ZE (acv (b:=true) (T:="StopIteration") ⟨_,ZW _ rfl,rfl⟩ aeR ?_);exact ZJ (q _ (((aaU ..).extBut.push _).push _))
theorem Sw (lo:(d==abC)=false)(x:lQ s.heap d ds ep)(q:∀h',h'.IsItemsView s.heap.objs.size d->(∀b o,s.heap.get? b=some o->h'.get? b=some o)->Q (.ref s.heap.objs.size) {s with heap:=h'}) :
  aac (aan prog w) A (Builtin.«dict.items» ⟨[.ref d],[]⟩) (λf s'=>∃v,f=.done (.ret v)/\Q v s') E s:=by
 unfold Builtin.«dict.items»;refine ZE ?_;unfold Builtin.Dict.noArgs;refine ZE (wpAny_notOrdered_dict x.ty ?_);change aac _ _ (pure d) _ _ s;refine ZJ ?_;change aac _ _ (acP d >>= _) _ _ s;unfold acP;rw[hV (by rw[lo];exact ZM)];exact ZE (ZJ (ZE (aav (ZJ ⟨_,rfl,q _ ⟨_,ZW _ rfl,rfl,rfl⟩ λb o e=>ZP _ e⟩))))
theorem Sz (hv:s.heap.IsItemsView vw d)(x:lQ s.heap d ds ep)(q:∀h',acB h' s.heap.objs.size d 0 ds.size ep .none .none->(∀b o,s.heap.get? b=some o->h'.get? b=some o)->Q (.ref s.heap.objs.size) {s with heap:=h'}):aac (aan prog w) A (pyIter (.ref vw)) Q E s:=by
 have ty:=hv.typeIs;obtain⟨ov,v1,v2,v3⟩:=hv;obtain⟨od,e1,e2,e3⟩:=x;refine ac1 ty F.slot_dict_items_iter (aat F.slot_dict_items_iter ty F.entry_dict_items_iter ?_ (F.args_dict_items_iter_1 _));unfold Builtin.«dict_items.__iter__»;refine ZE (ZJ (ZE ?_));unfold Builtin.Dict_items.dictOf;refine ZE (abF v1 v3 (x:=.ref d) rfl (ZJ (ZE ?_)));unfold Builtin.Dict_items.newIterator;refine ZE (aco e1 e3 (ZE (acQ e1 e3 ?_)));simp only[show abt "dict_itemiterator"=true by decide,if_true];refine aav (ZJ ⟨_,rfl,"dict_itemiterator",_,⟨_,ZW _ rfl,rfl⟩,F.slot_dict_itemiterator_next.lookup,?_⟩)
  (by simp only[sizeOk,adk,ZZ,Z3,Z0,abM,abv];lia)
 exact q _ (by
  have:=ZW s.heap (o:={cls:=.type "dict_itemiterator",data:=.fields #[.none,.bool false,.ref d,.int 0 0,.int ds.size 0,.int ep 0,.none,.none]}) rfl;unfold acB;simpa [aeg,adk] using this) λb o e=>ZP _ e
theorem SA {ok ov:ZR}{Q:Option ZR->Z5->Prop}(t:acB s.heap it d i ds.size ep ok ov)(x:lQ s.heap d ds ep)(hi:i<ds.size)
  (q:∀h',IsItemIterOut h' it d (i+1) ds.size ep ds[i].key ds[i].val s.heap.objs.size->h'.get? s.heap.objs.size=some {cls:=.type "tuple",data:=.seq #[ds[i].key,ds[i].val]} ->
   (∀b o,b≠it->s.heap.get? b=some o->h'.get? b=some o)->Q (some (.ref s.heap.objs.size)) {s with heap:=h'}):aac (aan prog w) A (adm (.ref it)) Q E s:=by
 obtain⟨hp,g,dr,tk,os⟩:=s;have ty:Shared.TypeIs ⟨hp,g,dr,tk,os⟩ (.ref it) "dict_itemiterator":=⟨_,t,rfl⟩;obtain⟨od,e1,e2,e3⟩:=x;unfold adm;refine ZE (aca (aaG (name:=aay "__next__") ty abU (aat abU ty ad9 ?_ (adY _))));refine ZE (ZJ (ZE (ZE ?_)))
 first|refine ZE (abN ty (ZJ ?_))|refine ZE (acg ty (ZJ ?_))
 refine ZE (ac8 t rfl ?_);simp only[show abt "dict_itemiterator"=true by decide,if_true];change aac _ _ (if (Value.ref d==Value.none)=true then _ else _) _ _ _;rw[hV (show ¬((Value.ref d==Value.none)=true) from ZM)];refine ZE (ZJ (ZE (aco e1 e3 ?_)));rw[hV (by simp)];refine ZE (ZJ (ZE (acQ e1 e3 ?_)));rw[hV (by simp)];refine ZJ ?_;simp only[show ¬((i:Int)<0) from by lia,if_false,aar,aae hi];refine ZE ?_
 first|refine ZE (abN ty (ZJ ?_))|refine ZE (acg ty (ZJ ?_))
 refine ZE (adN ty ?_);change aac _ _ (aeN (.ref it) 3 (aeg ((i:Int)+1)) >>= _) _ _ ⟨hp,g,dr,tk,os⟩;refine ZE (aa3 t (by simp) λg1 t1 b1=>?_)
 replace b1:aa0 it hp g1:=b1
 replace t1:acB g1 it d (i+1) ds.size ep ok ov:=by
  have z:((i+1:Nat):Int)=(i:Int)+1:=by lia
  unfold acB;rw[z];simpa [aeg] using t1
 have Xq:Shared.TypeIs ⟨g1,g,dr,tk,os⟩ (.ref it) "dict_itemiterator":=⟨_,t1,rfl⟩;refine ZE (aa9 (ZE (adN Xq (ZE (adN Xq ?_)))));change aac _ _ (adI (.ref it) 6 ds[i].key ds[i].val) _ _ ⟨g1,g,dr,tk,os⟩;unfold adI;refine ZE (wpAny_newTuple ?_);have t2:acB (g1.push {cls:=.type "tuple",data:=.seq #[ds[i].key,ds[i].val]}) it d (i+1) ds.size ep ok ov:=ZP _ t1;have n1:g1.objs.size=hp.objs.size:=b1.1;have lt:it<hp.objs.size:=Z4 t;have u2:(g1.push {cls:=.type "tuple",data:=.seq #[ds[i].key,ds[i].val]}).get? hp.objs.size=some {cls:=.type "tuple",data:=.seq #[ds[i].key,ds[i].val]}:=by rw[←n1];exact ZW _ rfl
 have k2:∀b o,b≠it->hp.get? b=some o->(g1.push {cls:=.type "tuple",data:=.seq #[ds[i].key,ds[i].val]}).get? b=some o:=λb o hb e=>ZP _ (b1.extBut b o hb e);change aac _ _ (adl (.ref it) >>= _) _ _ ⟨g1.push {cls:=.type "tuple",data:=.seq #[ds[i].key,ds[i].val]},g,dr,tk,os⟩;rw[n1];generalize g1.push {cls:=.type "tuple",data:=.seq #[ds[i].key,ds[i].val]}=g2 at t2 u2 k2 ⊢;refine ZE ?_;unfold adl;refine ZE (abF t2 rfl (x:=.none) rfl (ZJ ?_));simp only[if_true];refine ZE (abF t2 rfl (x:=ok) rfl (ZE (abF t2 rfl (x:=ov) rfl ?_)));refine ZE (aa3 t2 (by simp) λg3 t3 b3=>?_)
 replace b3:aa0 it g2 g3:=b3
 replace t3:acB g3 it d (i+1) ds.size ep ds[i].key ov:=t3
 refine ZE (aa3 t3 (by simp) λg4 t4 b4=>?_)
 replace b4:aa0 it g3 g4:=b4
 replace t4:acB g4 it d (i+1) ds.size ep ds[i].key ds[i].val:=t4
 refine ZE (aa3 t4 (by simp) λg5 t5 b5=>?_)
 replace b5:aa0 it g4 g5:=b5
 replace t5:IsItemIterOut g5 it d (i+1) ds.size ep ds[i].key ds[i].val hp.objs.size:=t5
 refine ZE (aa3 t5 (by simp) λg6 t6 b6=>?_)
 replace b6:aa0 it g5 g6:=b6
 replace t6:IsItemIterOut g6 it d (i+1) ds.size ep ds[i].key ds[i].val hp.objs.size:=t6
 have up:∀b o,b≠it->g2.get? b=some o->g6.get? b=some o:=λb o hb e=>b6.extBut b o hb (b5.extBut b o hb (b4.extBut b o hb (b3.extBut b o hb e)));exact ZE (wpAny_letGo (ZJ (ZJ ⟨_,rfl,ZJ (q g6 t6 (up _ _ (ab9 lt) u2) λb o hb e=>up b o hb (k2 b o hb e))⟩)))
theorem SE {ok ov:ZR}{Q:Option ZR->Z5->Prop}(hh:A.handled=none)(t:acB s.heap it d i ds.size ep ok ov)(x:lQ s.heap d ds ep)(hi:ds.size<=i)
  (q:∀h',Heap.ExtBut it s.heap h'->Q none {s with heap:=h'}):aac (aan prog w) A (adm (.ref it)) Q E s:=by
 have ty:s.TypeIs (.ref it) "dict_itemiterator":=⟨_,t,rfl⟩;obtain⟨od,e1,e2,e3⟩:=x;unfold adm;refine ZE (aca (aaG (name:=aay "__next__") ty abU (aat abU ty ad9 ?_ (adY _))));refine ZE (ZJ (ZE (ZE ?_)))
 first|refine ZE (abN ty (ZJ ?_))|refine ZE (acg ty (ZJ ?_))
 refine ZE (ac8 t rfl ?_);simp only[show abt "dict_itemiterator"=true by decide,if_true];change aac _ _ (if (Value.ref d==Value.none)=true then _ else _) _ _ s;rw[hV (show ¬((Value.ref d==Value.none)=true) from ZM)];refine ZE (ZJ (ZE (aco e1 e3 ?_)));rw[hV (by simp)];refine ZE (ZJ (ZE (acQ e1 e3 ?_)));rw[hV (by simp)];refine ZJ ?_;simp only[show ¬((i:Int)<0) from by lia,if_false,aar,ab3 hi];refine ZE ?_
 first|refine ZE (abN ty (ZJ ?_))|refine ZE (acg ty (ZJ ?_))
 change aac _ _ (aeN (.ref it) 2 .none >>= _) _ _ s;refine ZE (ace t rfl (by simp) ?_);change aac _ _ (newExc (.type "StopIteration") [] >>= _) _ _ _;refine ZE ?_;simp only[newExc,newTuple];refine ZE (aav (hd:=by size_fits) ?_);refine ZE (m:=acf _ _) (acM (a:=Value.none) (by first|rfl|(simp only[acf];rfl)) (aav (hd:=by size_fits) ?_));simp only[raiseNew];refine ZE (wpAny_handled ?_);rw[show A.in1.handled=none from hh];refine ZE (ZJ (wpAny_throw ?_));refine ZE (acv (b:=true) (T:="StopIteration") ⟨_,ZW _ rfl,rfl⟩ aeR ?_);exact ZJ (q _ (((aaU ..).extBut.push _).push _))
end
end Hc.Dw
namespace L2
open Hc.Dw
theorem uu {α β:Type}{R:α->β->Prop}:∀{xs:List α} {ys:List β} {i:Nat} {y:β},aeT R xs ys->ys[i]? = some y->∃x,xs[i]? = some x/\R x y
 |_,_,_,_,.nil,h=>by simp at h
 |x::xs,y'::ys,0,y,.cons r t,h=>by simp at h;subst h;exact⟨x,by simp,r⟩
 |x::xs,y'::ys,i+1,y,.cons r t,h=>by
  obtain⟨x',m,q⟩:=uu t (i:=i) (by simpa using h);exact⟨x',by simpa using m,q⟩
theorem aL.rawD (I:aL X pins σ H s)(q:H a=some (DN a ep es)):(a==abC)=false/\∃ds,lQ s.heap a ds ep/\ds.size=es.length/\∀(i:Nat) (hi:i<ds.size),∃e,es[i]? = some e/\ds[i].key=.ref e.2.1/\aZ e.2.2 ds[i].val:=by
 obtain⟨⟨l,o,ds,xs,h1,h2,h3,h4,h5⟩,_⟩:=I.hok a _ q;have n1:ds.size=es.length:=by rw[←aao,h5,ZF,adq h4]
 refine⟨l,ds,⟨o,h1,h2,h3⟩,n1,λi hi=>?_⟩;have e1:ds.toList[i]? = some ds[i]:=by rw[aaj];exact getElem?_pos ds i hi
 rw[h5,ZT] at e1;cases e2:xs[i]? with
 |none=>rw[e2] at e1;cases e1
 |some x=>
  rw[e2] at e1;have e3:RM x=ds[i]:=by injection e1
  obtain⟨e,m,r⟩:=uu h4 e2;refine⟨e,m,?_,?_⟩
  ·rw[←e3,r.2.1];rfl
  ·rw[←e3];exact r.2.2
def XT (a:Z_)(ep:Nat)(es:List (List U×Z_×V)):It:=
 ⟨λi H=>H a=some (DN a ep es)/\i<es.length,λi H v H'=>H'=H/\∃e,es[i]? = some e/\v=.ref e.2.1,λi H=>H a=some (DN a ep es)/\es.length<=i⟩
def XU (a:Z_)(ep:Nat)(es:List (List U×Z_×V)):It:=
 ⟨λi H=>H a=some (DN a ep es)/\i<es.length,λi H v H'=>H'=H/\∃e,es[i]? = some e/\v=e.2.2,λi H=>H a=some (DN a ep es)/\es.length<=i⟩
def Vq (a:Z_)(ep:Nat)(es:List (List U×Z_×V)):It:=
 ⟨λi H=>H a=some (DN a ep es)/\i<es.length,λi H v H'=>∃T e,v=.ref T/\H T=none/\es[i]? = some e/\H'=cH H T (.tup [.ref e.2.1,e.2.2]),λi H=>H a=some (DN a ep es)/\es.length<=i⟩
theorem uv:entryFor table "dict_itemiterator.__iter__"=some Builtin.«dict_keyiterator.__iter__» :=
 entryFor_alias (id':="dict_keyiterator.__iter__") (by kernel_rfl) rfl (by decide+kernel) (by kernel_rfl)
theorem BN {A:aaC}{ok ov:ZR}(st:acB s.heap it a i n ep ok ov)(h:Q (.ref it) s):aac (aan P w) A (pyIter (.ref it)) Q E s:=by
 have ty:s.TypeIs (.ref it) "dict_itemiterator":=⟨_,st,rfl⟩;refine ac1 ty aed (aat aed ty uv ?_ (F.args_dict_itemiterator_iter_1 _));change aac _ _ (ret (.ref it)) _ _ s;exact ZJ ⟨_,rfl,"dict_itemiterator",_,ty,F.slot_dict_itemiterator_next.lookup,h⟩
theorem BO:yV P w K (.Tuple elts kt tp) (Vq a ep es) [it] it (λi h=>∃ok ov,acB h it a i es.length ep ok ov) where
 mem:=by simp
 obj:=λi h st b hb=>by
  have e:b=it:=by simpa using hb
  subst e;obtain⟨ok,ov,q⟩:=st;exact⟨_,q,λv z=>by cases z⟩
 keep:=λi h h' ⟨ok,ov,q⟩ k=>⟨ok,ov,k it (by simp) _ q⟩
 item:=by
  intro X hP hw hK hc i pins s σ H E I hf st hg;subst hP hw hK;obtain⟨hq,hi⟩:=hg;obtain⟨_,ds,rd,n,at_⟩:=I.rawD hq;obtain⟨ok,ov,st⟩:=st;rw[←n] at st hi;obtain⟨e,m,ek,rv⟩:=at_ i hi;have lt:it<s.heap.objs.size:=Z4 st;refine SA st rd hi λh' bL tu kp=>⟨_,rfl,?_⟩;refine wpAny_letOwnedTupleGo_items bL λh2 nv sb=>?_;have Xr:=sb.extBut _ _ (ab9 lt) tu;have I2:aL X pins σ (cH H s.heap.objs.size (.tup [.ref e.2.1,e.2.2])) {s with heap:=h2}:=I.turnNew (fp:=[it]) (t':=s.toks) hf (λb o hb q=>by
   have hb:b≠it:=by simpa using hb
   exact sb.extBut _ _ hb (kp b o hb q)) (ZS _) ⟨by rw[abv];simp,[ds[i].key,ds[i].val],.cons ek (.cons rv .nil),⟨_,Xr,rfl,_,rfl⟩,_,Xr⟩
  refine⟨.ref s.heap.objs.size,_,I2,rfl,⟨_,e,rfl,I.hok.fresh (ZS _),m,rfl⟩,⟨_,_,by rw[←n];exact nv⟩,λb hb=>?_⟩;have yN:b=it:=by simpa using hb
  rw[a_ (by rw[yN];exact aah lt)];exact (hf b hb).1
 done:=by
  intro X hP hw hK hc i pins s σ H E I hf st hg;subst hP hw hK;obtain⟨hq,hi⟩:=hg;obtain⟨_,ds,rd,n,at_⟩:=I.rawD hq;obtain⟨f0,f1,f2,f3,f4,f5⟩:=hf it (by simp);obtain⟨ok,ov,st⟩:=st;rw[←n] at st hi;exact SE (I.ok.hd hc) st rd hi λh' eb=>⟨rfl,I.turned (t':=s.toks) (λb o hb e=>eb b o hb e) f0 f1 f3 f4 f5⟩
 self:=λ_ _ _ _ _ ⟨ok,ov,st⟩ h=>BN st h
def WM (J:Z_->Nat->List (List U×Z_×V)->It)(tl:TE):TI:=λσ H R=>tl σ H λx H1=>∃a ep es,x=.ref a/\H1 a=some (DN a ep es)/\R (J a ep es) H1
structure M0 (X:Cx)(o:abH)(m:Str)(eQ cpos:Pos):Prop where
 base:acV o m X.env (acD o X.env)=acD o X.env
 few:((abW cpos (Z8 [] X.env)).all (λx=> !x.1)&&(backToKw cpos (adR [] X.env)).all (λx=>x.1.isSome)
  && decide (([]:List abH).length+([]:List adu).length+(if ([]:List adu).isEmpty then 0 else 1)<30))=true
 line:(eQ.endLine==cpos.line)=true
 trees:abW cpos (Z8 [] X.env)=[]
section
variable {e:abH}{tl:TE}{eQ cpos:Pos}
theorem Pr (I:aL X pins σ H s)(q:H a=some (DN a ep es)):s.TypeIs (.ref a) "dict"/\∀b,Value.ref a=.ref b->∃ob,s.heap.get? b=some ob/\ob.dict=none:=by
 obtain⟨_,ds,rd,_⟩:=I.rawD q;refine⟨rd.ty,λb z=>?_⟩;cases z;obtain⟨o,h1,h2,_⟩:=rd;exact⟨o,h1,h2.2.1⟩
theorem Ij (hl:PE X e tl)(m:M0 X e "items" eQ cpos):PI X (.Tuple elts kt tp) (.Call (.Attribute e "items" eQ) [] [] cpos) (WM Vq tl):=by
 intro pins s σ H R I h;refine wpAny_Call_method m.base m.few m.line PySem.F.plainAttrs_dict PySem.F.slot_dict_items PySem.F.type_dict_items (fQ (hl pins s σ H _ I h) λv s1 ⟨x,H1,I1,r1,a,ep,es,ex,hq,q⟩=>?_);subst ex;cases r1;obtain⟨t1,t2⟩:=Pr I1 hq;refine⟨t1,t2,?_⟩;rw[m.trees];obtain⟨lo,ds,rd,n,_⟩:=I1.rawD hq;refine adK rfl (PyProof.Rows.evalArgs_none ?_);refine aat PySem.F.slot_dict_items t1 PySem.F.entry_dict_items (Sw lo rd λh1 vw k1=>?_) (PySem.F.args_dict_items_1 _);refine Sz vw (rd.at λo z=>k1 _ o z) λh2 st k2=>?_;have I2:aL X pins σ H1 {s1 with heap:=h2}:=I1.kept (t':=s1.toks) λb o z=>k2 b o (k1 b o z);refine⟨h1.objs.size,[h1.objs.size],_,_,H1,rfl,I2,BO (a:=a) (ep:=ep) (es:=es),⟨_,_,by rw[←n];exact st⟩,λb hb=>?_,q⟩;have e:b=h1.objs.size:=by simpa using hb
 have ge:s1.heap.objs.size<=h1.objs.size:=by
  obtain⟨o,z,_⟩:=vw;exact ad2 (Z4 z)
 exact I1.fpOk (by rw[e];exact ge) (I1.hok.fresh (by rw[e];exact ge))
end
end L2
namespace L2
open Hc.Dw
mutual
theorem SF {K:ZN}{H:Hp}{A:Z_->Prop}:∀{u:U} {v:V},KH H u v->Rp K H A u v
 | .int i,v,h=>by unfold KH at h;unfold Rp;exact h
 | .tup us,v,h=>by
  unfold KH at h;unfold Rp;obtain⟨b,ys,e,q,l,z⟩:=h;exact⟨b,ys,e,q,l,BP z⟩
 | .non,v,h=>by unfold KH at h;exact h.elim
 | .bl _,v,h=>by unfold KH at h;exact h.elim
 | .str _,v,h=>by unfold KH at h;exact h.elim
 | .lst _,v,h=>by unfold KH at h;exact h.elim
 | .dct _ _,v,h=>by unfold KH at h;exact h.elim
 | .scr _,v,h=>by unfold KH at h;exact h.elim
 | .obj _ _,v,h=>by unfold KH at h;exact h.elim
theorem BP {K:ZN}{H:Hp}{A:Z_->Prop}:∀{us:List U} {vs:List V},tF H us vs->aH K H A us vs
 | [],vs,h=>by unfold tF at h;unfold aH;exact h
 |u::us,vs,h=>by
  unfold tF at h;unfold aH;obtain⟨x,r,q,p,z⟩:=h;exact⟨x,r,q,SF p,BP z⟩
end
theorem Ik (h:vo H us b):Rp K H A (.tup us) (.ref b):=by
 obtain⟨_,ys,q,l,z⟩:=h;unfold Rp;exact⟨b,ys,rfl,q,l,BP z⟩
def Pt:U->Bool
 | .tup _=>true
 |_=>false
def BQ (ks:List U):Bool:= !ks.isEmpty&&ks.all Pt
theorem BR (w:BQ ks=true)(d:xo H a ks xs):∃es ep,H a=some (DN a ep es)/\(∀e∈es,vo H e.1 e.2.1)/\ks=es.map (λp=>.tup p.1)/\xs=es.map (·.2.2):=by
 unfold BQ at w;rw[Z7] at w;rcases d with⟨bb,h,rfl,rfl⟩|⟨es,n,h,e1,e2⟩
 ·exfalso;cases bb with
  |nil=>exact absurd w.1 (by simp)
  |cons p r=>
   have:=w.2;rw[ZI,acu,Z7] at this;obtain⟨p1,p2⟩:=p;cases p1<;>cases this.1
 ·obtain⟨ep,q⟩:=h.ne n;exact⟨es,ep,q,h.key,e1,e2⟩
theorem SG (mu:∀a,A a->Mu (H1 a))(w:BQ ks=true)(h:Rp K H1 A (.dct ks us) v):∃a ep es,v=.ref a/\H1 a=some (DN a ep es)/\
  Wk K false A ks (XT a ep es) H1/\Wk K false A us (XU a ep es) H1/\Wk K false A (abe (λk u=>.tup [k,u]) ks us) (Vq a ep es) H1:=by
 unfold Rp at h;obtain⟨a,xs,rfl,na,d,l,z⟩:=h;obtain⟨es,ep,q,kt,e1,e2⟩:=BR w d;subst e1 e2;have le:es.length=us.length:=by rw[z.length,ZF]
 have key:∀(i:Nat) (e:List U×Z_×V),es[i]? = some e->Rp K H1 A (.tup e.1) (.ref e.2.1):=λi e he=>Ik (kt e (aa1 he));have val:∀(i:Nat) (u:U),us[i]? = some u->∃e:List U×Z_×V,es[i]? = some e/\Rp K H1 A u e.2.2:=λi u hu=>by
  obtain⟨x,h1,h2⟩:=z.get hu;rw[ZT] at h1;cases he:es[i]? with
  |none=>rw[he] at h1;cases h1
  |some e=>rw[he] at h1;cases h1;exact⟨e,rfl,h2⟩
 refine⟨a,ep,es,rfl,q,⟨?_,λH A' hx ha=>?_⟩,⟨l,λH A' hx ha=>?_⟩,⟨?_,λH A' hx ha=>?_⟩⟩
 ·rw[ZF,le];exact l
 ·rw[hV ZM] at hx;have qa:=hx a _ na q;refine⟨λi u hu=>?_,⟨qa,by rw[ZF];exact ZS _⟩⟩;rw[ZT] at hu;cases he:es[i]? with
  |none=>rw[he] at hu;cases hu
  |some e=>
   rw[he] at hu;cases hu;refine⟨⟨qa,(ZQ.mp he).1⟩,λx H' y=>?_⟩;obtain⟨rfl,e',J8,rfl⟩:=y;rw[he] at J8;cases J8;exact⟨aR.refl _,(key i e he).re mu hx ha⟩
 ·rw[hV ZM] at hx;have qa:=hx a _ na q;refine⟨λi u hu=>?_,⟨qa,by rw[le];exact ZS _⟩⟩;obtain⟨e,he,r⟩:=val i u hu;refine⟨⟨qa,(ZQ.mp he).1⟩,λx H' y=>?_⟩;obtain⟨rfl,e',J8,rfl⟩:=y;rw[he] at J8;cases J8;exact⟨aR.refl _,r.re mu hx ha⟩
 ·rw[ab1];exact aaP (Nat.min_le_right _ _) l
 ·rw[hV ZM] at hx;have qa:=hx a _ na q;refine⟨λi u hu=>?_,⟨qa,by rw[ab1,ZF,le,Nat.min_self];exact ZS _⟩⟩;rw[List.getElem?_zipWith,ZT] at hu;cases hU:us[i]? with
  |none=>rw[hU] at hu;cases h:es[i]? <;> rw[h] at hu<;>cases hu
  |some u0=>
   obtain⟨e,he,r⟩:=val i u0 hU;rw[hU,he] at hu;cases hu;refine⟨⟨qa,(ZQ.mp he).1⟩,λx H' y=>?_⟩;obtain⟨T,e',rfl,hT,J8,rfl⟩:=y;rw[he] at J8;cases J8;have sm:=cR hT (.tup [.ref e.2.1,e.2.2]);refine⟨sm,?_⟩;unfold Rp;exact⟨T,_,rfl,bj,by have:ZL=16777216:=rfl;rw[this];simp,aH.cons (((key i e he).re mu hx ha).same sm) (aH.cons ((r.re mu hx ha).same sm) aH.nil)⟩
def Zf (g:Ev->R (U×Ev)):Ev->R (List U×Ev):=λρ=>(g ρ).bind λx=>match x.1 with
 | .dct ks _=>if BQ ks=true then .ok (ks,x.2) else .stk
 |_=>.stk
def UE (g:Ev->R (U×Ev)):Ev->R (List U×Ev):=λρ=>(g ρ).bind λx=>match x.1 with
 | .dct ks us=>if BQ ks=true then .ok (abe (λk u=>.tup [k,u]) ks us,x.2) else .stk
 |_=>.stk
section
variable {e:abH}{eQ cpos:Pos}{b1:Bool}{m1:Md}{g1:Ev->R (U×Ev)}
theorem Fm {f:List U->List U->List U}{J:Z_->Nat->List (List U×Z_×V)->It}(n1:m1≠.P)(hw:∀{K:ZN} {A:Z_->Prop} {H1:Hp} {ks us:List U} {v:V},(∀a,A a->Mu (H1 a))->BQ ks=true->Rp K H1 A (.dct ks us) v->∃a ep es,v=.ref a/\H1 a=some (DN a ep es)/\Wk K false A (f ks us) (J a ep es) H1){R:It->Hp->Prop}(h:Uv X.K G b1 false (λρ=>(g1 ρ).bind λx=>match x.1 with
   | .dct ks us=>if BQ ks=true then .ok (f ks us,x.2) else .stk
   |_=>.stk) σ H R):WM J (tD X.K G b1 m1 g1) σ H R:=by
 obtain⟨Z,A,ρ,q,h⟩:=h;dsimp only at h;refine⟨Z,A,ρ,q,?_⟩;cases e1:g1 ρ with
 |stk=>rw[e1] at h;exact h.elim
 |exc=>rw[e1] at h;exact h.elim
 |ok y=>
  obtain⟨u,ρ1⟩:=y;rw[e1] at h;intro v H1 q1 x1 s1 vm;cases u with
  |dct ks us=>
   dsimp only[L2.R.bind] at h;split at h
   ·rename_i VZ ρ' e2;split at e2
    ·rename_i c;cases e2;obtain⟨a,ep,es,ev,hq,wk⟩:=hw q1.mu c (vm.rp n1);exact⟨a,ep,es,ev,hq,h _ H1 q1 x1 s1 wk⟩
    ·cases e2
   ·exact h.elim
  |_=>exact h.elim
theorem zJ (h:DE X G e b1 m1 g1)(n1:m1≠.P:=by decide)(m:M0 X e "items" eQ cpos:=by exact⟨rfl,rfl,rfl,rfl⟩):DI X G (.Tuple elts kt tp) (.Call (.Attribute e "items" eQ) [] [] cpos) b1 false (UE g1):=⟨(Ij h.un m).to λσ H R z=>Fm (f:=λks us=>abe (λk u=>.tup [k,u]) ks us) n1 (λmu w r=>by
 obtain⟨a,ep,es,h1,h2,_,_,h3⟩:=SG mu w r;exact⟨a,ep,es,h1,h2,h3⟩) z⟩
end
end L2
namespace L2
def Gm.un (G:Gm)(i:Nat):Gm:=⟨G.own.set i false,G.io,G.W⟩
theorem kK:(G.un i).is i=false:=by
 unfold Gm.un Gm.is;dsimp only;rw[ZV,List.getElem?_set];split
 ·split<;>rfl
 ·rename_i h;exact absurd rfl h
theorem lR (h:i≠j):(G.un i).is j=G.is j:=by
 unfold Gm.un Gm.is;dsimp only;rw[ZV,ZV,aal h]
section
variable {A':Z_->Prop}{ρ':Ev}
theorem cT.un (r:cT K G Z A ρ σ H)(hi:G.io=true->i≠0):∃A',cT K (G.un i) Z A' ρ σ H:=by
 have io0:∀h:(G.un i).io=true,σ[0]? = some (some (.ref Z.a0))/\(G.un i).is 0=true:=λh=>by
  obtain⟨a,b⟩:=r.io0 h;exact⟨a,by rw[lR (hi h)];exact b⟩
 by_cases c:G.is i=true/\∃u,ρ[i]? = some (some u)
 ·obtain⟨c,u,hu⟩:=c;obtain⟨a,h1,h2,h3,h4,h5⟩:=r.own c hu;have na:¬Z.A0 a:=by
   rcases h4 with h4|⟨h4,h6⟩
   ·exact h4
   ·exact absurd h6 (hi h4)
  have sub:∀b,(A b/\b≠a)->A b:=λb z=>z.1;refine⟨λb=>A b/\b≠a,?_⟩;exact {
   slot:=λj w hj=>by
    obtain⟨v,s1,s2⟩:=r.slot j w hj;refine⟨v,s1,?_⟩;by_cases e:i=j
    ·subst e;rw[hu] at hj;cases hj;rw[h1] at s1;cases s1;rw[hV (by rw[kK];exact ZM)];exact h5.rp sub λz=>z.2 rfl
    ·rw[lR e];by_cases cj:G.is j=true
     ·rw[hZ cj] at s2 ⊢;obtain⟨b,e1,e2,e3,e4,e5⟩:=s2;refine⟨b,e1,⟨e2,λz=>?_⟩,e3,e4,e5.mono sub⟩;subst z e1;exact r.dis i j u w b c cj e hu hj h1 s1
     ·rw[hV cj] at s2 ⊢;exact s2.mono sub
   dis:=λj k w w' b cj ck ne hj hk sj sk=>by
    have e1:i≠j:=λz=>by subst z;rw[kK] at cj;cases cj
    have e2:i≠k:=λz=>by subst z;rw[kK] at ck;cases ck
    rw[lR e1] at cj;rw[lR e2] at ck;exact r.dis j k w w' b cj ck ne hj hk sj sk
   mu:=λb z=>r.mu b z.1
   sup:=λb z=>⟨r.sup b z,λe=>na (e▸z)⟩
   out:=λb z=>r.out b z.1
   bas:=r.bas
   io0:=io0
   len:=r.len}
 ·refine⟨A,?_⟩;exact {
   slot:=λj w hj=>by
    obtain⟨v,s1,s2⟩:=r.slot j w hj;refine⟨v,s1,?_⟩;by_cases e:i=j
    ·subst e;rw[hV (by rw[kK];exact ZM)];rw[hV (λz=>c ⟨z,w,hj⟩)] at s2;exact s2
    ·rw[lR e];exact s2
   dis:=λj k w w' b cj ck ne hj hk sj sk=>by
    have e1:i≠j:=λz=>by subst z;rw[kK] at cj;cases cj
    have e2:i≠k:=λz=>by subst z;rw[kK] at ck;cases ck
    rw[lR e1] at cj;rw[lR e2] at ck;exact r.dis j k w w' b cj ck ne hj hk sj sk
   mu:=r.mu
   sup:=r.sup
   out:=r.out
   bas:=r.bas
   io0:=io0
   len:=r.len}
theorem cT.reun (r:cT K (G.un i) Z A ρ σ H):cT K G Z A (ρ.set i none) σ H where
 slot:=λj w hj=>by
  rcases dA hj with⟨rfl,e⟩|⟨ne,e⟩
  ·cases e
  ·obtain⟨v,s1,s2⟩:=r.slot j w e;rw[lR ne] at s2;exact⟨v,s1,s2⟩
 dis:=λj k w w' a cj ck ne hj hk sj sk=>by
  rcases dA hj with⟨rfl,e⟩|⟨n1,e1⟩
  ·cases e
  ·rcases dA hk with⟨rfl,e⟩|⟨n2,e2⟩
   ·cases e
   ·exact r.dis j k w w' a (by rw[lR n1];exact cj) (by rw[lR n2];exact ck) ne e1 e2 sj sk
 mu:=r.mu
 sup:=r.sup
 out:=r.out
 bas:=r.bas
 io0:=λh=>by
  obtain⟨a,b⟩:=r.io0 h;refine⟨a,?_⟩;by_cases e:i=0
  ·subst e;rw[kK] at b;cases b
  ·rw[lR e] at b;exact b
 len:=by rw[aaJ];exact r.len
end
def vE (i:Nat)(g:Ev->SR):Ev->SR:=λρ=>match g ρ with
 | .nx ρ'=>.nx (ρ'.set i none)
 | .bk ρ'=>.bk (ρ'.set i none)
 | .ct ρ'=>.ct (ρ'.set i none)
 | .rt u ρ'=>.rt u (ρ'.set i none)
 |r=>r
section
variable {e:abH}{TY:List adh}{m m1:Md}{g:Ev->SR}{g1:Ev->R (U×Ev)}{h1:Ev->R (Bool×Ev)}
theorem Il (hi:G.io=true->i≠0){D:nA}(h:QW X.K G m (vE i g) D σ H):QW X.K (G.un i) m g D σ H:=by
 obtain⟨Z,A,ρ,q,f⟩:=h;obtain⟨A',q'⟩:=q.un hi;refine⟨Z,A',ρ,q',?_⟩;unfold vE at f;cases e:g ρ with
 |nx=>rw[e] at f;exact λA2 σ2 H2 q2=>f A2 σ2 H2 q2.reun
 |bk=>rw[e] at f;exact λA2 σ2 H2 q2=>f A2 σ2 H2 q2.reun
 |ct=>rw[e] at f;exact λA2 σ2 H2 q2=>f A2 σ2 H2 q2.reun
 |rt=>rw[e] at f;exact λA2 σ2 H2 v q2 vm=>f A2 σ2 H2 v q2.reun vm
 |exc=>rw[e] at f;exact f
 |stk=>rw[e] at f;exact f.elim
theorem sJ (i:Nat)(h:Bq X (G.un i) m TY g)(hi:G.io=true->i≠0:=by decide):Bq X G m TY (vE i g):=⟨h.un.to λ_ _ _ z=>Il hi z⟩
end
end L2
namespace Hc.Ts
section
variable {O:KeyOrd}(key:adP->O.α)
def FZ (l:List adP):Prop:=l.Pairwise λx y=>O.kle (key x) (key y)
structure MI (T o ra rb:List adP):Prop where
 perm:(o++(ra++rb)).Perm T
 so:FZ key o
 sa:FZ key ra
 sb:FZ key rb
 oa:∀x∈o,∀y∈ra,O.kle (key x) (key y)
 ob:∀x∈o,∀y∈rb,O.kle (key x) (key y)
structure MH (T ra rb o:List adP):Prop where
 perm:((ra++rb)++o).Perm T
 so:FZ key o
 sa:FZ key ra
 sb:FZ key rb
 oa:∀x∈ra,∀y∈o,O.kle (key x) (key y)
 ob:∀x∈rb,∀y∈o,O.kle (key x) (key y)
variable {key}
end
structure Im (M:Model)(A:aaC)(E:ZR->Z5->Prop)(s:Z5)(O:KeyOrd)(key:adP->O.α)(knd:SortKind)(D:adP->Prop):Prop where
 lt:∀(x y:adP) (st:abm) (Q:Option Bool->abm->Prop),D x->D y->acF st=knd->Q (some (O.blt (key x) (key y))) st->wpS M A E s (lt' x y) Q st
end Hc.Ts
namespace Hc.Ts
def DL (lo n m:Nat):StateT abm Sem AscSt:=forIn [n:m] ((none,n):AscSt) λ_ c=>do
 let some sm ←ltAt' (lo+c.2) (lo+c.2-1)|pure (.done (some none,c.2))
 if sm=true then pure (.done (none,c.2)) else pure (.yield (none,c.2+1))
def DM (lo n m:Nat):StateT abm Sem (Option Nat):=do
 ael lo (lo+n)
 let c ←DL lo n m
 match c.1 with
 |some r=>pure r
 |none=>pure (some c.2)
def NH (lo:Nat)(c:DescSt):StateT abm Sem (ForInStep DescSt):=do
 let some sm ←ltAt' (lo+c.2.1) (lo+c.2.1-1)|pure (.done (some none,c.2.1,c.2.2))
 if sm=true then
  if c.2.2>0 then do
   ael (lo+c.2.1-(c.2.2+1)) (lo+c.2.1)
   pure (.yield (none,c.2.1+1,0))
  else pure (.yield (none,c.2.1+1,0))
 else do
  let some lg ←ltAt' (lo+c.2.1-1) (lo+c.2.1)|pure (.done (some none,c.2.1,c.2.2))
  if lg=true then pure (.done (none,c.2.1,c.2.2)) else pure (.yield (none,c.2.1+1,c.2.2+1))
def Io (lo n m:Nat):StateT abm Sem DescSt:=forIn [n:m] ((none,n,0):DescSt) λ_ c=>NH lo c
def DP (lo n m:Nat):StateT abm Sem (Option Nat):=do
 liftM (rule "list.sort.descending-run")
 let c ←Io lo (n+1) m
 match c.1 with
 |some r=>pure r
 |none=>
  if c.2.2>0 then do
   ael (lo+c.2.1-(c.2.2+1)) (lo+c.2.1)
   DM lo c.2.1 m
  else DM lo c.2.1 m
theorem zK (lo m:Nat):countRun' lo m=(do
  let c ←DL lo 1 m
  match c.1 with
  |some r=>pure r
  |none=>
   if (c.2==m)=true then pure (some c.2)
   else if c.2>1 then do
    let some rs ←ltAt' lo (lo+c.2-1)|pure none
    if rs=true then pure (some c.2)
    else do
     ael lo (lo+c.2)
     DP lo c.2 m
   else DP lo c.2 m):=by kernel_rfl
section
variable {A:aaC}{O:KeyOrd}{key:adP->O.α}{knd:SortKind}{D:adP->Prop}{lo:Nat}{a0:Array adP}{gF:abm}
def kx (key:adP->O.α)(l:Array adP)(i:Nat):O.α:=key ((l[i]?).getD (Value.none,Value.none))
theorem zL {m:Array adP}(h:l[i]? = m[j]?):kx key l i=kx key m j:=by unfold kx;rw[h]
theorem BS (hm:lo+m<=l.size)(k:Nat):kx key (mirror l (lo+n) (lo+m) ((lo+m-(lo+n)) / 2)) (lo+k)=if n<=k/\k<m then kx key l (lo+(n+m-1-k)) else kx key l (lo+k):=by
 have e:=getElem?_mirror_all (i:=lo+n) hm (lo+k);by_cases c:n<=k/\k<m
 ·rw[hZ (by lia)] at e;rw[hZ c];exact zL (e.trans (by congr 1;lia))
 ·rw[hV (by lia)] at e;rw[hV c];exact zL e
theorem ik (hm:lo+m<=l.size)(he:∀k,n<=k->k<m->kx key l (lo+k)=kx key l (lo+m-1))(k:Nat):kx key (mirror l (lo+n) (lo+m) ((lo+m-(lo+n)) / 2)) (lo+k)=kx key l (lo+k):=by
 rw[BS hm];split
 ·rename_i c;rw[he _ (by lia) (by lia),he k c.1 c.2]
 ·rfl
theorem Iq {d:Nat}(hp:lo+p<l.size)(hd:d<=p)(k:Nat):kx key (bubble l (lo+p) d) (lo+k)=if k=p-d then kx key l (lo+p) else if p-d<k/\k<=p then kx key l (lo+(k-1)) else kx key l (lo+k):=by
 have e:=getElem?_bubble hp d (by lia) (lo+k);by_cases c:k=p-d
 ·rw[hZ (by lia)] at e;rw[hZ c];exact zL e
 ·rw[hV (by lia)] at e;rw[hV c];by_cases c2:p-d<k/\k<=p
  ·rw[hZ (by lia)] at e;rw[hZ c2];exact zL (e.trans (by congr 1;lia))
  ·rw[hV (by lia)] at e;rw[hV c2];exact zL e
def F1 (key:adP->O.α)(lo:Nat)(l:Array adP)(n:Nat):Prop:=∀i j,i<=j->j<n->O.kle (kx key l (lo+i)) (kx key l (lo+j))
def QX (key:adP->O.α)(lo:Nat)(l:Array adP)(n:Nat):Prop:=∀i j,i<=j->j<n->O.kle (kx key l (lo+j)) (kx key l (lo+i))
structure SB (lo:Nat)(a0:Array adP)(gF st:abm):Prop where
 perm:(aaN st).Perm a0
 same:∀k,k<lo->(aaN st)[k]? = a0[k]?
 rest:st=setArr gF (aaN st)
theorem SB.size {st:abm}(h:SB lo a0 gF st):(aaN st).size=a0.size:=h.perm.size_eq
theorem SB.put {st:abm}(h:SB lo a0 gF st)(hp:l.Perm (aaN st))(hs:∀k,k<lo->l[k]? = (aaN st)[k]?):SB lo a0 gF (setArr st l):=by
 refine⟨hp.trans h.perm,λk hk=>(hs k hk).trans (h.same k hk),?_⟩;have:=h.rest;generalize aaN st=z at this;subst this;rfl
theorem SB.mir {st:abm}(h:SB lo a0 gF st)(hm:lo+m<=a0.size):SB lo a0 gF (setArr st (mirror (aaN st) (lo+n) (lo+m) ((lo+m-(lo+n)) / 2))):=by
 refine h.put (mirror_perm _ _ _ _) λk hk=>?_;rw[getElem?_mirror_all (by rw[h.size];exact hm),hV (by lia)]
theorem SB.bub {st:abm}(h:SB lo a0 gF st){d:Nat}(hp:lo+p<a0.size)(hd:d<=p):SB lo a0 gF (setArr st (bubble (aaN st) (lo+p) d)):=by
 refine h.put (bubble_perm _ _ _) λk hk=>?_;rw[getElem?_bubble (by rw[h.size];exact hp) d (by lia),hV (by lia),hV (by lia)]
theorem SB.kind {st:abm}(h:SB lo a0 gF st)(kd:acF gF=knd):acF st=knd:=by rw[h.rest];exact kd
theorem uw (C:Im M A E s O key knd D){st:abm}{Q:Option Bool->abm->Prop}(kd:acF gF=knd)(hD:∀p∈a0.toList,D p)(hB:SB lo a0 gF st)(hi:i<a0.size)(hj:j<a0.size)(h:Q (some (O.blt (kx key (aaN st) i) (kx key (aaN st) j))) st):wpS M A E s (ltAt' i j) Q st:=by
 have fd:∀i,i<a0.size->∃p,(aaN st)[i]? = some p/\D p/\kx key (aaN st) i=key p:=λi hi=>by
  have yE:i<(aaN st).size:=by rw[hB.size];exact hi
  refine⟨(aaN st)[i],getElem?_pos _ i yE,hD _ ((aeB.mp hB.perm).mem_iff.mp (by simp)),?_⟩;unfold kx;rw[getElem?_pos _ i yE];rfl
 obtain⟨p,e1,d1,k1⟩:=fd i hi;obtain⟨q,e2,d2,k2⟩:=fd j hj;rw[k1,k2] at h;rw[ltAt'_eq];refine aa4 (wpS_get ?_);dsimp only;rw[elem'_eq,elem'_eq,e1,e2];refine aa4 (abR (aa4 (abR ?_)));exact C.lt p q st Q d1 d2 (hB.kind kd) h
theorem xE {st:abm}{Q:Unit->abm->Prop}(h:Q () (setArr st (mirror (aaN st) i j ((j-i) / 2)))):wpS M A E s (ael i j) Q st:=by
 rw[reverseSlice'_eq];exact wpS_modify h
theorem zM (C:Im M A E s O key knd D){st:abm}{Q:AscSt->abm->Prop}(kd:acF gF=knd)(hD:∀p∈a0.toList,D p)(hm:lo+m<=a0.size)(n1:1<=n)(nm:n<=m)(hB:SB lo a0 gF st)(ha:F1 key lo (aaN st) n)(h:∀r,n<=r->r<=m->F1 key lo (aaN st) r->(r=m\/O.klt (kx key (aaN st) (lo+r)) (kx key (aaN st) (lo+r-1)))->Q (none,r) st):wpS M A E s (DL lo n m) Q st:=by
 unfold DL;refine ad_ (I:=λx c bL=>bL=st/\c=(none,x)/\F1 key lo (aaN st) x) ?go ?out ⟨rfl,rfl,ha⟩
 case out=>
  rintro c bL ⟨rfl,rfl,A7⟩;have e:max n m=m:=by lia
  rw[e] at A7 ⊢;exact h m nm (ZS _) A7 (.inl rfl)
 case go=>
  rintro x c bL h1 h2 ⟨rfl,rfl,A7⟩;dsimp only;refine aa4 (uw C kd hD hB (by lia) (by lia) ?_);dsimp only;cases e:O.blt (kx key (aaN bL) (lo+x)) (kx key (aaN bL) (lo+x-1)) with
  |true=>
   rw[hZ rfl];exact abR (h x h1 (by lia) A7 (.inr e))
  |false=>
   rw[hV ZM];refine abR ⟨rfl,rfl,λi j CB hj=>?_⟩;by_cases c1:j<x
   ·exact A7 i j CB c1
   ·have:j=x:=by lia
    subst this;by_cases c2:i=j
    ·subst c2;exact abO _
    ·have:=A7 i (j-1) (by lia) (by lia);rw[show lo+(j-1)=lo+j-1 by lia] at this;exact adb this e
theorem zN (C:Im M A E s O key knd D){st:abm}{Q:Option Nat->abm->Prop}(kd:acF gF=knd)(hD:∀p∈a0.toList,D p)(hm:lo+m<=a0.size)(n1:1<=n)(nm:n<=m)(hB:SB lo a0 gF st)(hd:QX key lo (aaN st) n)(h:∀r bL,SB lo a0 gF bL->1<=r->r<=m->F1 key lo (aaN bL) r->Q (some r) bL):wpS M A E s (DM lo n m) Q st:=by
 unfold DM;refine aa4 (xE ?_);have Q5:=hB.mir (n:=0) (m:=n) (by lia);have hz:lo+n<=(aaN st).size:=by rw[hB.size];lia
 rw[aeL] at Q5;refine aa4 (zM C kd hD hm n1 nm Q5 (λi j CB hj=>?_) λr r1 r2 r3 _=>abR (h r _ Q5 (by lia) r2 r3));have e1:=BS (key:=key) (lo:=lo) (n:=0) hz i;have e2:=BS (key:=key) (lo:=lo) (n:=0) hz j;rw[aeL,hZ (by lia)] at e1 e2;rw[e1,e2];exact hd _ _ (by lia) (by lia)
theorem Ir (C:Im M A E s O key knd D){st:abm}{Q:DescSt->abm->Prop}(kd:acF gF=knd)(hD:∀p∈a0.toList,D p)(hm:lo+m<=a0.size)(n1:1<=n)(nm:n<=m)(hB:SB lo a0 gF st)(hd:QX key lo (aaN st) n)(h:∀r q bL,SB lo a0 gF bL->n<=r->r<=m->QX key lo (aaN bL) r->q+1<=r->(∀i,r-(q+1)<=i->i<r->kx key (aaN bL) (lo+i)=kx key (aaN bL) (lo+r-1))->Q (none,r,q) bL):wpS M A E s (Io lo n m) Q st:=by
 unfold Io;refine ad_ (I:=λx c bL=>∃q,c=(none,x,q)/\SB lo a0 gF bL/\QX key lo (aaN bL) x/\q+1<=x/\∀i,x-(q+1)<=i->i<x->kx key (aaN bL) (lo+i)=kx key (aaN bL) (lo+x-1)) ?go ?out
  ⟨0,rfl,hB,hd,by lia,λi a1 a2=>by congr 1;lia⟩
 case out=>
  rintro c bL ⟨q,rfl,b1,b2,b3,b4⟩;have e:max n m=m:=by lia
  rw[e] at b2 b3 b4 ⊢;exact h m q bL b1 nm (ZS _) b2 b3 b4
 case go=>
  rintro x c bL h1 h2 ⟨q,rfl,b1,b2,b3,b4⟩;have hz:lo+x<=(aaN bL).size:=by rw[b1.size];lia
  unfold NH;dsimp only;refine aa4 (uw C kd hD b1 (by lia) (by lia) ?_);dsimp only;cases e:O.blt (kx key (aaN bL) (lo+x)) (kx key (aaN bL) (lo+x-1)) with
  |true=>
   rw[hZ rfl];have nx:∀l:Array adP,(∀k,kx key l (lo+k)=kx key (aaN bL) (lo+k))->QX key lo l (x+1):=by
    intro l hl i j CB hj;rw[hl,hl];by_cases c1:j<x
    ·exact b2 i j CB c1
    ·have:j=x:=by lia
     subst this;by_cases c2:i=j
     ·subst c2;exact abO _
     ·have:=b2 i (j-1) (by lia) (by lia);rw[show lo+(j-1)=lo+j-1 by lia] at this;exact adb (adZ e) this
   by_cases c:q>0
   ·rw[hZ c];refine aa4 (xE ?_);have e3:lo+x-(q+1)=lo+(x-(q+1)):=by lia
    rw[e3];refine abR ⟨0,rfl,b1.mir (by lia),nx _ (ik hz b4),by lia,λi a1 a2=>?_⟩;congr 1;lia
   ·rw[hV c];exact abR ⟨0,rfl,b1,nx _ (λ_=>rfl),by lia,λi a1 a2=>by congr 1;lia⟩
  |false=>
   rw[hV ZM];refine aa4 (uw C kd hD b1 (by lia) (by lia) ?_);dsimp only;cases e2:O.blt (kx key (aaN bL) (lo+x-1)) (kx key (aaN bL) (lo+x)) with
   |true=>
    rw[hZ rfl];exact abR (h x q bL b1 h1 (by lia) b2 b3 b4)
   |false=>
    rw[hV ZM];have eq:kx key (aaN bL) (lo+x)=kx key (aaN bL) (lo+x-1):=KeyOrd.kle_antisymm e2 e;refine abR ⟨q+1,rfl,b1,λi j CB hj=>?_,by lia,λi a1 a2=>?_⟩
    ·by_cases c1:j<x
     ·exact b2 i j CB c1
     ·have:j=x:=by lia
      subst this;by_cases c2:i=j
      ·subst c2;exact abO _
      ·rw[eq];have:=b2 i (j-1) (by lia) (by lia);rw[show lo+(j-1)=lo+j-1 by lia] at this;exact this
    ·rw[show lo+(x+1)-1=lo+x by lia];by_cases c1:i=x
     ·subst c1;rfl
     ·rw[eq];exact b4 i (by lia) (by lia)
theorem zO (C:Im M A E s O key knd D){st:abm}{Q:Option Nat->abm->Prop}(kd:acF gF=knd)(hD:∀p∈a0.toList,D p)(hm:lo+m<=a0.size)(nm:n+1<=m)(hB:SB lo a0 gF st)(hd:QX key lo (aaN st) (n+1))(h:∀r bL,SB lo a0 gF bL->1<=r->r<=m->F1 key lo (aaN bL) r->Q (some r) bL):wpS M A E s (DP lo n m) Q st:=by
 unfold DP;refine aa4 (wpS_lift (wpAny_rule ⟨rfl,?_⟩));refine aa4 (Ir C kd hD hm (by lia) nm hB hd λr q bL b1 r1 r2 b2 b3 b4=>?_);dsimp only;have hz:lo+r<=(aaN bL).size:=by rw[b1.size];lia
 by_cases c:q>0
 ·rw[hZ c];refine aa4 (xE ?_);have e3:lo+r-(q+1)=lo+(r-(q+1)):=by lia
  rw[e3];refine zN C kd hD hm (by lia) r2 (b1.mir (by lia)) (λi j CB hj=>?_) h;have e1:=ik (key:=key) hz b4 i;have e2:=ik (key:=key) hz b4 j;rw[e1,e2];exact b2 i j CB hj
 ·rw[hV c];exact zN C kd hD hm (by lia) r2 b1 b2 h
theorem zP (C:Im M A E s O key knd D){st:abm}{Q:Option Nat->abm->Prop}(kd:acF gF=knd)(hD:∀p∈a0.toList,D p)(hm:lo+m<=a0.size)(m1:1<=m)(hB:SB lo a0 gF st)(h:∀r bL,SB lo a0 gF bL->1<=r->r<=m->F1 key lo (aaN bL) r->Q (some r) bL):wpS M A E s (countRun' lo m) Q st:=by
 rw[zK];refine aa4 (zM C kd hD hm (ZS 1) m1 hB (λi j CB hj=>by rw[show i=j by lia];exact abO _) λn n1 n2 ha ho=>?_);dsimp only;by_cases c:n=m
 ·rw[hZ (by simpa using c)];exact abR (h n st hB n1 n2 ha)
 ·rw[hV (by simpa using c)];have hl:=ho.resolve_left c;by_cases c2:n>1
  ·rw[hZ c2];refine aa4 (uw C kd hD hB (by lia) (by lia) ?_);dsimp only;cases e:O.blt (kx key (aaN st) lo) (kx key (aaN st) (lo+n-1)) with
   |true=>
    rw[hZ rfl];exact abR (h n st hB n1 n2 ha)
   |false=>
    rw[hV ZM];have hz:lo+n<=(aaN st).size:=by rw[hB.size];lia
    have al:∀k,0<=k->k<n->kx key (aaN st) (lo+k)=kx key (aaN st) (lo+n-1):=by
     intro k _ hk;have p1:=ha 0 k (by lia) hk;have p2:=ha k (n-1) (by lia) (by lia);rw[show lo+(n-1)=lo+n-1 by lia] at p2;exact KeyOrd.kle_antisymm p2 (adb (show O.kle _ (kx key (aaN st) lo) from e) p1)
    refine aa4 (xE ?_);have Q5:=hB.mir (n:=0) (m:=n) (by lia);rw[aeL] at Q5;refine zO C kd hD hm (by lia) Q5 (λi j CB hj=>?_) h;have e1:=ik (key:=key) (n:=0) hz al i;have e2:=ik (key:=key) (n:=0) hz al j;rw[aeL] at e1 e2;rw[e1,e2];by_cases c3:j<n
    ·rw[al i (by lia) (by lia),al j (by lia) c3];exact abO _
    ·have:j=n:=by lia
     subst this;by_cases c4:i=j
     ·subst c4;exact abO _
     ·rw[al i (by lia) (by lia)];exact adZ hl
  ·rw[hV c2];have:n=1:=by lia
   subst this;refine zO C kd hD hm (by lia) hB (λi j CB hj=>?_) h;by_cases c4:i=j
   ·subst c4;exact abO _
   ·have Yq:i=0:=by lia
    have Yr:j=1:=by lia
    subst Yq;subst Yr;exact adZ hl
theorem BU (C:Im M A E s O key knd D){st:abm}{ok:Nat}{Q:Bool->abm->Prop}(kd:acF gF=knd)(hD:∀p∈a0.toList,D p)(hn:lo+n<=a0.size)(hok:ok<=n)(hB:SB lo a0 gF st)(ha:F1 key lo (aaN st) ok)(h:∀bL,SB lo a0 gF bL->F1 key lo (aaN bL) n->Q true bL):wpS M A E s (binarySort' lo n ok) Q st:=by
 rw[binarySort'_eq];refine aa4 (wpS_mono (ad_ (I:=λk c bL=>c=(none,())/\SB lo a0 gF bL/\F1 key lo (aaN bL) (min k n))
  (Q:=λc bL=>c=(none,())/\SB lo a0 gF bL/\F1 key lo (aaN bL) n) ?go ?out ?at0) ?end_)
 case end_=>
  rintro c bL ⟨rfl,b1,b2⟩;exact abR (h bL b1 b2)
 case at0=>
  refine⟨rfl,hB,λi j CB hj=>?_⟩;by_cases c:ok=0
  ·rw[show i=j by lia];exact abO _
  ·exact ha i j CB (by lia)
 case out=>
  rintro c bL ⟨e,b1,b2⟩;have e2:min (max (max ok 1) n) n=n:=by lia
  rw[e2] at b2;exact⟨e,b1,b2⟩
 case go=>
  rintro k c Cy AU Q4 ⟨rfl,b1,b2⟩;have e1:min k n=k:=by lia
  rw[e1] at b2;have hk:lo+k<a0.size:=by lia
  refine aa4 (wpS_mono (ad_ (I:=λx c nv=>nv=Cy/\∃l r,c=(none,l,r)/\l<=r/\r<=k/\r-l<=k-x/\
    (∀i,i<l->O.kle (kx key (aaN Cy) (lo+i)) (kx key (aaN Cy) (lo+k)))/\∀i,r<=i->i<k->O.klt (kx key (aaN Cy) (lo+k)) (kx key (aaN Cy) (lo+i)))
   (Q:=λc nv=>nv=Cy/\∃l,c=(none,l,l)/\l<=k/\(∀i,i<l->O.kle (kx key (aaN Cy) (lo+i)) (kx key (aaN Cy) (lo+k)))/\∀i,l<=i->i<k->O.klt (kx key (aaN Cy) (lo+k)) (kx key (aaN Cy) (lo+i))) ?go2 ?out2 ?JT) ?end2)
  case JT=>exact⟨rfl,0,k,rfl,by lia,by lia,by lia,λi hi=>by lia,λi a1 a2=>by lia⟩
  case out2=>
   rintro c nv ⟨rfl,l,r,rfl,q1,q2,q3,q4,q5⟩;have:l=r:=by lia
   subst this;exact⟨rfl,l,rfl,q2,q4,q5⟩
  case go2=>
   rintro x c nv _ hx ⟨rfl,l,r,rfl,q1,q2,q3,q4,q5⟩;dsimp only;by_cases c:l≥r
   ·rw[hZ c];have:l=r:=by lia
    subst this;exact abR ⟨rfl,l,rfl,q2,q4,q5⟩
   ·rw[hV c];refine aa4 (uw C kd hD b1 hk (by lia) ?_);cases e:O.blt (kx key (aaN nv) (lo+k)) (kx key (aaN nv) (lo+(l+r) / 2)) with
    |true=>
     simp only[if_true];exact abR ⟨rfl,l,(l+r) / 2,rfl,by lia,by lia,by lia,q4,λi a1 a2=>KeyOrd.klt_of_klt_of_kle e (b2 _ _ a1 a2)⟩
    |false=>
     simp only[aaq,if_false];exact abR ⟨rfl,(l+r) / 2+1,r,rfl,by lia,by lia,by lia,λi a1=>adb (b2 i ((l+r) / 2) (by lia) (by lia)) (show O.kle _ _ from e),q5⟩
  case end2=>
   rintro c nv ⟨rfl,l,rfl,q2,q4,q5⟩;dsimp only;rw[moveDown'_eq];have e2:lo+k-(lo+l)=k-l:=by lia
   refine aa4 (wpS_modify (abR ⟨rfl,?_,?_⟩))
   ·rw[e2];exact b1.bub hk (by lia)
   ·rw[show min (k+1) n=k+1 by lia];have hz:lo+k<(aaN nv).size:=by rw[b1.size];exact hk
    intro i j CB hj;show O.kle (kx key (bubble (aaN nv) (lo+k) (lo+k-(lo+l))) (lo+i)) (kx key (bubble (aaN nv) (lo+k) (lo+k-(lo+l))) (lo+j));rw[e2,Iq hz (by lia),Iq hz (by lia),show k-(k-l)=l by lia]
    repeat' split
    all_goals first
     | (exfalso;lia)
     |exact abO _
     |exact q4 _ (by lia)
     |exact adZ (q5 _ (by lia) (by lia))
     |exact b2 _ _ (by lia) (by lia)
end
end Hc.Ts
namespace Hc.Ts
def xF (lo n:Nat):StateT abm Sem (ForInStep (Option Unit×Nat)):=do
 modify λst=>setPending st ((acq st).push (lo,n,0))
 pure (.yield (none,lo+n))
def XW (pw:Nat)(_:Nat)(_:Option Unit×Unit):StateT abm Sem (ForInStep (Option Unit×Unit)):=do
 let st ←get
 let some (_,_,old):=(if (acq st).size>1 then (acq st)[(acq st).size-2]? else none)|pure (.done (none,()))
 if old<=pw then pure (.done (none,())) else do
  let r ←mergeAt' ((acq st).size-2)
  if (!r)=true then pure (.done (some (),())) else pure (.yield (none,()))
def Vr (pw:Nat)(st:abm):abm:=setPending st ((acq st).modify ((acq st).size-1) λx=>match x with|(p,n,_)=>(p,n,pw))
def SH (size lo n pw:Nat):StateT abm Sem (ForInStep (Option Unit×Nat)):=do
 let c ←forIn [0:size] ((none,()):Option Unit×Unit) (XW pw)
 match c.1 with
 |some r=>pure (.done (some r,lo))
 |none=>do
  modify (Vr pw)
  xF lo n
def UG (size lo n:Nat):StateT abm Sem (ForInStep (Option Unit×Nat)):=do
 let st ←get
 let some (p1,n1,_):=(acq st).back? | xF lo n
 SH size lo n (power' size (2*p1+n1) (2*p1+n1+n1+n) size)
def WN (size CC:Nat)(_:Nat)(c:Option Unit×Nat):StateT abm Sem (ForInStep (Option Unit×Nat)):=
 if c.2≥size then pure (.done (none,c.2)) else do
  let some n ←countRun' c.2 (size-c.2)|pure (.done (some (),c.2))
  if n<CC then do
   liftM (rule "list.sort.binary-insertion")
   let r ←binarySort' c.2 (min (size-c.2) CC) n
   if (!r)=true then pure (.done (some (),c.2)) else UG size c.2 (min (size-c.2) CC)
  else UG size c.2 n
def XX (p:Array (Nat×Nat×Nat)):Nat:=
 if Option.any (λx=>decide (x<(p[p.size-2+1]?).elim 0 λx=>x.2.1)) (if p.size-2>0 then Option.map (λx=>x.2.1) p[p.size-2-1]? else none)=true then p.size-2-1 else p.size-2
def WO (_:Nat)(_:Option Unit×Unit):StateT abm Sem (ForInStep (Option Unit×Unit)):=do
 let st ←get
 if (acq st).size<=1 then pure (.done (none,())) else do
  let r ←mergeAt' (XX (acq st))
  if (!r)=true then pure (.done (some (),())) else pure (.yield (none,()))
theorem xG:sortRuns'=(do
  let st ←get
  let c ←forIn [0:(aaN st).size] ((none,0):Option Unit×Nat) (WN (aaN st).size (minRun' (aaN st).size (aaN st).size 0))
  match c.1 with
  |some r=>pure r
  |none=>do
   let d ←forIn [0:(aaN st).size] ((none,()):Option Unit×Unit) WO
   match d.1 with
   |some r=>pure r
   |none=>pure ()):=by kernel_rfl
section
variable {A:aaC}{O:KeyOrd}{key:adP->O.α}{knd:SortKind}{D:adP->Prop}{a0:Array adP}
theorem Lg (h:F1 key 0 l l.size):FZ key l.toList:=by
 refine aeQ.mpr λi j hi hj CB=>?_;have at_:∀k,(hk:k<l.toList.length)->kx key l (0+k)=key l.toList[k]:=λk hk=>by
  unfold kx;rw[abd,←aaj,ZH hk];rfl
 have:=h i j (by lia) (by rwa [aao] at hj)
 rwa [at_ i hi,at_ j hj] at this
def SI (key:adP->O.α)(a0:Array adP)(st:abm):Prop:=failedOf st=none/\(aaN st).toList.Perm a0.toList/\FZ key (aaN st).toList/\(acq st).size<=1
theorem zQ (C:Im M A E s O key knd D)(hD:∀p∈a0.toList,D p){st:abm}(hk:acF st=knd)(hf:failedOf st=none)(ha:aaN st=a0)(hp:acq st=#[])(hz:a0.size<64)(h1:1<=a0.size){Q:Unit->abm->Prop}
  (q:∀bL,failedOf bL=none->(aaN bL).toList.Perm a0.toList->FZ key (aaN bL).toList->Q () bL):wpS M A E s sortRuns' Q st:=by
 have Ys:minRun' a0.size a0.size 0=a0.size:=by
  obtain⟨f,hf⟩:∃f,a0.size=f+1:=⟨a0.size-1,by lia⟩;have:minRun' (f+1) a0.size 0=a0.size:=by rw[minRun'_succ,hZ hz];rfl
  rw[←hf] at this;exact this
 rw[xG];refine aa4 (wpS_get ?_);rw[ha,Ys];have push:∀bL,SB 0 a0 st bL->F1 key 0 (aaN bL) a0.size->∀{Q:ForInStep (Option Unit×Nat)->abm->Prop},(∀nv,SI key a0 nv->Q (.yield (none,0+a0.size)) nv)->wpS M A E s (UG a0.size 0 a0.size) Q bL:=by
  intro bL b T7 Q h;have pe:acq bL=#[]:=by rw[b.rest];exact hp
  unfold UG;refine aa4 (wpS_get ?_);rw[pe];show wpS M A E s (xF 0 a0.size) Q bL;unfold xF;refine aa4 (wpS_modify (abR (h _ ⟨?_,?_,?_,?_⟩)))
  ·rw[b.rest];exact hf
  ·exact aeB.mp b.perm
  ·rw[←b.size] at T7;exact Lg T7
  ·show ((acq bL).push _).size<=1;rw[pe];exact ZS 1
 have Xs:∀p∈a0.toList,D p:=hD;refine aa4 (wpS_mono (ad_ (I:=λx c bL=>c.1=none/\((x=0/\c.2=0/\bL=st)\/(c.2=a0.size/\SI key a0 bL))) (Q:=λc bL=>c.1=none/\SI key a0 bL) ?go ?out ⟨rfl,.inl ⟨rfl,rfl,rfl⟩⟩) ?post)
 case out=>
  rintro⟨c1,lo⟩ bL ⟨e,h⟩;rcases h with⟨x,_⟩|⟨_,h⟩
  ·lia
  ·exact⟨e,h⟩
 case go=>
  rintro x ⟨c1,lo⟩ bL _ hx ⟨e,h⟩;dsimp only at e h;unfold WN;dsimp only;rcases h with⟨rfl,rfl,rfl⟩|⟨rfl,h⟩
  ·rw[hV (by lia)];have b0:SB 0 a0 bL bL:=⟨by rw[ha],λ_ _=>by rw[ha],rfl⟩;refine aa4 (zP C hk Xs (by lia) (by lia) b0 λn nv b1 n1 n2 T7=>?_);dsimp only;rw[Nat.sub_zero,Nat.min_self] at *;by_cases c3:n<a0.size
   ·rw[hZ c3];refine aa4 (wpS_lift (wpAny_rule ⟨rfl,?_⟩));refine aa4 (BU C hk Xs (by lia) (by lia) b1 T7 λQN b2 V9=>?_);rw[hV (by decide)];exact push QN b2 V9 λYt o=>⟨rfl,.inr ⟨abd _,o⟩⟩
   ·rw[hV c3];obtain rfl:n=a0.size:=by lia
    exact push nv b1 T7 λYt o=>⟨rfl,.inr ⟨abd _,o⟩⟩
  ·rw[hZ (ZS _)];exact abR ⟨rfl,h⟩
 case post=>
  rintro⟨c1,lo⟩ bL ⟨e,h⟩;dsimp only at e ⊢;subst e;dsimp only;refine aa4 (wpS_mono (ad_ (I:=λx c bL=>c=(none,())/\SI key a0 bL) (Q:=λc bL=>c=(none,())/\SI key a0 bL) ?_ ?_ ⟨rfl,h⟩) ?_)
  ·rintro x c nv _ hx ⟨rfl,h2⟩;unfold WO;refine aa4 (wpS_get ?_);rw[hZ h2.2.2.2];exact abR ⟨rfl,h2⟩
  ·rintro c nv ⟨rfl,h2⟩;exact⟨rfl,h2⟩
  ·rintro c nv ⟨rfl,h2⟩;exact abR (q nv h2.1 h2.2.1 h2.2.2.1)
end
end Hc.Ts
namespace Hc.Ts
section
variable {A:aaC}{O:KeyOrd}{key:adP->O.α}{knd:SortKind}{D:adP->Prop}
theorem wI {vs:List ZR}{l:List adP}(h:l.Perm (vs.zip vs)):(l.map (·.2)).Perm vs/\∀p∈l,p=(p.2,p.2):=by
 have e:(vs.zip vs).map (·.2)=vs:=by
  induction vs with
  |nil=>rfl
  |cons v r ih=>rw[List.zip_cons_cons,ZI,List.map_snd_zip (by simp)]
 refine⟨by have:=h.map (·.2);rwa [e] at this,λp hp=>?_⟩;have hp:=h.mem_iff.mp hp;clear h e
 induction vs with
 |nil=>cases hp
 |cons v r ih=>
  rw[List.zip_cons_cons,ZX] at hp;rcases hp with hp|hp
  ·subst hp;rfl
  ·exact ih hp
theorem Iu {vs:List ZR}{P:Fin->Z5->Prop}(ho:s.heap.get? a=some (aeI "list" vs.toArray n))(hz:vs.length<64)(hk:2<=vs.length->∀(h6:acz) (Q:SortKind->Z5->Prop),(∀b o,b≠a->s.heap.get? b=some o->h6.get? b=some o)->Q knd {s with heap:=h6}->aac (aan prog w) A (keyKind' vs.toArray) Q E {s with heap:=h6})(hC:2<=vs.length->∀h6:acz,(∀b o,b≠a->s.heap.get? b=some o->h6.get? b=some o)->Im (aan prog w) A E {s with heap:=h6} O key knd D)(hD:∀v∈vs,D (v,v))(h:∀out:List ZR,out.Perm vs->out.Pairwise (λx y=>O.kle (key (x,x)) (key (y,y)))->P (.done (.ret .none)) {s with heap:=sortedHeap s.heap a vs out.toArray}) :
  aac (aan prog w) A (Builtin.«list.sort» ⟨[.ref a],[]⟩) P E s:=by
 have J7:vs.length<=ZL:=by rw[abv];lia
 have la:a<s.heap.objs.size:=Z4 ho;rw[list_sort_plain];refine ZE (listItems_at ho rfl (ZE (listUpdate_at ho rfl ?_ (hsz:=by rw[ZZ];exact J7))));obtain⟨e1,o1⟩:∃e1,(s.heap.update a (acU λ_=>#[])).get? a=some (aeI "list" #[] e1):=⟨_,get?_update_seq ho (λ_=>#[])⟩;refine ZE (seqEpoch_at o1 rfl (ZE (wpAny_newTuple (ZE (wpAny_newList (aa9 ?_))) (by simpa using J7))));have kp:∀b o,b≠a->s.heap.get? b=some o->(((s.heap.update a (acU λ_=>#[])).push (aeI "tuple" vs.toArray 0)).push (aeI "list" #[] 0)).get? b=some o:=λb o hb e=>
  ZP _ (ZP _ ((Heap.get?_update_ne _ _ _ _ hb).trans e))
 have o6:(((s.heap.update a (acU λ_=>#[])).push (aeI "tuple" vs.toArray 0)).push (aeI "list" #[] 0)).get? a=some (aeI "list" #[] e1):=ZP _ (ZP _ o1);change aac (aan prog w) A _ P E {s with heap:=((s.heap.update a (acU λ_=>#[])).push (aeI "tuple" vs.toArray 0)).push (aeI "list" #[] 0)};dsimp only;have fin:∀bL:abm,failedOf bL=none->(aaN bL).toList.Perm (pairsOf vs).toList->FZ key (aaN bL).toList->aac (aan prog w) A (do
   let touched:=(←seqEpoch a) != e1
   Builtin.List.listUpdate (.ref a) λ_=>(aaN bL).map (·.2)
   if let some e:=failedOf bL then rule "list.sort.comparison-raised";throw e
   if touched then rule "list.sort.modified";raiseError "ValueError" "list modified during sort"
   ret .none) P E {s with heap:=((s.heap.update a (acU λ_=>#[])).push (aeI "tuple" vs.toArray 0)).push (aeI "list" #[] 0)}:=by
  intro bL f1 f2 f3;rw[ad1] at f2;obtain⟨m1,m2⟩:=wI f2;refine ZE (seqEpoch_at o6 rfl (ZE (listUpdate_at o6 rfl ?_ (hsz2:=by
   rw[Array.size_map,←aao,f2.length_eq,adG,Nat.min_self];lia))))
  rw[f1];simp only[bne_self_eq_false,aaq,if_false];refine ZJ ?_;have e:(aaN bL).map (·.2)=((aaN bL).toList.map (·.2)).toArray:=by apply Array.ext';simp
  rw[e];refine h _ m1 (abE.mpr (acm (λ{x y} hx hy r=>?_) f3));rw[←m2 x hx,←m2 y hy];exact r
 by_cases h2:vs.length<2
 ·rw[hZ (by rw[ZZ];exact h2),hZ (by rw[ZZ];exact h2)];refine ZE (ZJ ?_);rw[StateT.run_pure];refine ZE (ZJ ?_);refine fin (SortSt.mk' general' (vs.toArray.zip vs.toArray) #[] 7 none) rfl (abj _) ?_;change FZ key (pairsOf vs).toList;rw[ad1]
  match vs,h2 with
  | [],_=>exact List.Pairwise.nil
  | [v],_=>exact aaS _ _
  |_::_::_,h2=>exact absurd h2 (by simp)
 ·rw[hV (by rw[ZZ];exact h2),hV (by rw[ZZ];exact h2)];refine ZE (hk (by lia) _ _ kp ?_);refine ZE (aaM (zQ (hC (by lia) _ kp) (a0:=pairsOf vs) (λp hp=>?_) (st:=SortSt.mk' knd (vs.toArray.zip vs.toArray) #[] 7 none) rfl rfl rfl rfl (by rw[←aao,ad1,adG];lia) (by rw[←aao,ad1,adG];lia)
   (Q:=λ_ bL=>failedOf bL=none/\(aaN bL).toList.Perm (pairsOf vs).toList/\FZ key (aaN bL).toList) λbL a1 a2 a3=>⟨a1,a2,a3⟩) ?_ λ_ _ e=>e)
  ·rw[ad1] at hp;obtain⟨m1,m2⟩:=wI (abj (vs.zip vs));rw[m2 p hp];exact hD _ (m1.mem_iff.mp (aaB hp))
  ·rintro⟨⟨⟩,bL⟩ s' ⟨rfl,f1,f2,f3⟩;exact fin bL f1 f2 f3
end
end Hc.Ts
namespace Hc.Ts
open PySem.W
def iE:List Int->List Int->Bool
 | [],[]=>false
 | [],_::_=>true
 |_::_,[]=>false
 |x::xs,y::ys=>if x=y then iE xs ys else decide (x<y)
theorem qX:∀a,iE a a=false
 | []=>rfl
 |x::xs=>by unfold iE;rw[hZ rfl];exact qX xs
theorem ux:∀a b c,iE a b=true->iE b c=true->iE a c=true
 | [],[],_,h,_=>by cases h
 | [],_::_,[],_,h=>by cases h
 | [],_::_,_::_,_,_=>rfl
 |_::_,[],_,h,_=>by cases h
 |_::_,_::_,[],_,h=>by cases h
 |x::xs,y::ys,z::zs,h1,h2=>by
  unfold iE at h1 h2 ⊢;by_cases e1:x=y
  ·subst e1;rw[hZ rfl] at h1;by_cases e2:x=z
   ·subst e2;rw[hZ rfl] at h2 ⊢;exact ux xs ys zs h1 h2
   ·rw[hV e2] at h2 ⊢;exact h2
  ·rw[hV e1] at h1;have h1:=of_decide_eq_true h1;by_cases e2:y=z
   ·subst e2;rw[hV e1];exact hG h1
   ·rw[hV e2] at h2;have h2:=of_decide_eq_true h2;rw[hV (by lia)];exact hG (by lia)
theorem zS:∀a b c,iE a c=true->iE a b=true\/iE b c=true
 | [],[],_::_,_=>.inr rfl
 | [],_::_,_::_,_=>.inl rfl
 | [],_,[],h=>by cases h
 |_::_,_,[],h=>by cases h
 |_::_,[],_::_,_=>.inr rfl
 |x::xs,y::ys,z::zs,h=>by
  unfold iE at h ⊢;by_cases e:x=z
  ·subst e;rw[hZ rfl] at h;by_cases e2:x=y
   ·subst e2;rw[hZ rfl,hZ rfl];exact zS xs ys zs h
   ·rw[hV e2,hV (λq=>e2 q.symm),decide_eq_true_eq,decide_eq_true_eq];lia
  ·rw[hV e] at h;have h:=of_decide_eq_true h;by_cases e2:x=y
   ·subst e2;exact .inr (by rw[hV e];exact hG h)
   ·by_cases e3:y=z
    ·subst e3;exact .inl (by rw[hV e];exact hG h)
    ·rw[hV e2,hV e3,decide_eq_true_eq,decide_eq_true_eq];lia
theorem nI:∀a b,iE a b=false->iE b a=false->a=b
 | [],[],_,_=>rfl
 | [],_::_,h,_=>by cases h
 |_::_,[],_,h=>by cases h
 |x::xs,y::ys,h1,h2=>by
  unfold iE at h1 h2;by_cases e:x=y
  ·subst e;rw[hZ rfl] at h1 h2;rw[nI xs ys h1 h2]
  ·rw[hV e] at h1;rw[hV (λq=>e q.symm)] at h2;have h1:=of_decide_eq_false h1;have h2:=of_decide_eq_false h2;lia
def Lh:KeyOrd:=⟨List Int,iE,qX,ux,zS,nI⟩
def xH (h:acz)(v:ZR):List Int:=match v with
 | .ref a=>match h.get? a with
  |some o=>match o.data with
   | .seq aD _=>aD.toList.map numOf
   |_=>[]
  |none=>[]
 |_=>[]
def zT (h:acz)(v:ZR):Prop:=∃a aD ns,v=.ref a/\h.IsTuple a aD/\adQ aD.toList ns/\ns≠[]
theorem zU:∀{vs:List ZR} {ns:List Int},adQ vs ns->vs.map numOf=ns
 |_,_,.nil=>rfl
 |_,_,.cons n t r=>by rw[ZI,zU r];rfl
theorem oV {aD:Array ZR}(t:h.IsTuple a aD)(i:adQ aD.toList ns):xH h (.ref a)=ns:=by
 obtain⟨o,e,_,n,d⟩:=t;unfold xH;dsimp only;rw[e];dsimp only;rw[d];exact zU i
section
variable {A:aaC}{b fin:Bool}{Q:Bool->Z5->Prop}
theorem zV:∀{xs ys:List ZR} {ns ms:List Int} {i:Nat},adQ xs ns->adQ ys ms->fin=decide (ns.length<ms.length)->Q (iE ns ms) s->KatLex prog w A b fin Q (xs.zip ys) i s
 |_,_,_,_,i,.nil,.nil,hf,h=>by subst hf;exact kat_nil h
 |_,_,_,_,i,.nil,.cons m t r,hf,h=>by subst hf;exact kat_nil (by rw[show decide (([]:List Int).length<(m::_).length)=true from hG (by simp)];exact h)
 |_,_,_,_,i,.cons n t r,.nil,hf,h=>by subst hf;exact kat_nil (by rw[show decide ((n::_).length<([]:List Int).length)=false from hJ (by simp)];exact h)
 |_,_,_,_,i,.cons n t r,.cons m u q,hf,h=>by
  refine kat_cons (aeb ?_);unfold iE at h;by_cases e:n=m
  ·subst e;rw[hZ rfl] at h;rw[beq_self_eq_true];refine kat_yes (zV r q ?_ h);rw[hf];simp
  ·rw[hV e] at h;rw[show (n==m)=false from beq_eq_false_iff_ne.mpr e];refine kat_no ?_;cases hb:(b&&i==0) with
   |true=>exact oneLt_int h
   |false=>exact kat_one _ _ (lt_int h)
theorem Li {hp:acz}(keep:∀v,zT hp v->zT s.heap v/\xH s.heap v=xH hp v):Im (aan prog w) A E s Lh (λx=>xH hp x.1) (tuples' true) (λx=>zT hp x.1) where
 lt:=λx y st Q dx dy kd q=>by
  obtain⟨k1,k2⟩:=keep _ dx;obtain⟨k3,k4⟩:=keep _ dy;obtain⟨a,xs,ns,e1,t1,i1,_⟩:=k1;obtain⟨c,ys,ms,e2,t2,i2,_⟩:=k3;rw[←k2,←k4,e1,e2,oV t1 i1,oV t2 i2] at q;rw[lt'_eq];refine aa4 (wpS_get ?_);rw[kd,e1,e2];obtain⟨o1,g1,_,n1,d1⟩:=t1;obtain⟨o2,g2,_,n2,d2⟩:=t2;refine aa4 (wpS_lift (aca (kat_lt g1 d1 g2 d2 (zV i1 i2 ?_ ⟨rfl,?_⟩))))
  ·rw[←i1.length,←i2.length,aao,aao]
  ·exact abR q
end
end Hc.Ts
namespace Hc.Dw
open PySem.W PySem.Calls
section
variable {A:aaC}{d r I:Z_}{ds:Array ady}
theorem Pu (hh:A.handled=none)(A6:d≠I):Walks prog w A I [I,d] [I] ds.size (λi v=>∃e,ds[i]? = some e/\v=e.key) (λi h=>h.IsKeyIter I d i ds.size ep/\lQ h d ds ep) where
 sub:=λb hb=>by simp at hb;simp[hb]
 frame:=λ_ _ _ st hk=>⟨st.1.at λo e=>hk I (by simp) o e,st.2.at λo e=>hk d (by simp) o e⟩
 item:=λi s Q E hi st hQ=>Su st.1 st.2 hi λh' t' sb=>hQ _ h' s.toks ⟨_,getElem?_pos ds i hi,rfl⟩ ⟨t',st.2.at λo e=>sb.extBut _ _ A6 e⟩ λb o hb e=>sb.extBut b o (λh=>hb (by simp[h])) e
 done:=λs Q E st hQ=>Sv hh st.1 st.2 (ZS _) λh' eb=>hQ h' s.toks λb o hb e=>eb b o (λh=>hb (by simp[h])) e
 self:=λ_ _ _ _ st hQ=>wpAny_pyIter_keyiter st.1 hQ
theorem SJ (lo:(d==abC)=false):KdlSrc prog w "dict" d d ds.size (λi v=>∃e,ds[i]? = some e/\v=e.key) (λh=>lQ h d ds ep) where
 type:=λ_ hm=>hm.ty
 there:=λ_ hm=>⟨hm.lt,hm.lt⟩
 keep:=λ_ _ hm hk=>hm.at λo e=>hk d (.inl rfl) o e
 notList:=by decide
 notTuple:=by decide
 hint:=λ_ _ _ _ hm hq=>kdl_hint_dict hm.ty hq
 iter:=λ_ s hh hm=>⟨_,_,(λ_ _ hq=>Ss lo hm hq),Pu hh (aah hm.lt),⟨⟨_,ZW _ rfl,rfl,rfl⟩,hm.at λo e=>ZP _ e⟩⟩
theorem qY {T:String}{P:Nat->ZR->Prop}{OK:acz->Prop}(K:KdlSrc prog w T r d n P OK)(hh:A.handled=none)(hok:OK s.heap)(hn:n<=ZL){Q:List ZR->Z5->Prop}(q:∀h' tk bE,(∀b o,s.heap.get? b=some o->h'.get? b=some o)->ItemsOf P bE n->Q bE.toList {s with heap:=h',toks:=tk}):aac (aan prog w) A (collect (.ref r)) Q E s:=by
 have lt:=K.there _ hok;unfold collect;refine ZE (wpAny_runValue (ab0 PySem.F.entry_proto_collect ?_));rw[abz PySem.F.plain_proto_collect _];change aac _ A.in1 (newList [] >>= λl=>again (.builtin "list.__iadd__" ⟨[l,.ref r],[]⟩)) _ _ s;refine ZE (aav (ZJ ⟨plainId_quiet PySem.F.plain_list_iadd _,ab0 PySem.F.entry_list_iadd ?_⟩));rw[abz PySem.F.plain_list_iadd _];have hS:(s.heap.push {cls:=.type "list",data:=.seq ([]:List ZR).toArray}).get? s.heap.objs.size=some {cls:=.type "list",data:=.seq #[] 0}:=ZW _ rfl;change aac _ A.in1 (aes (.ref s.heap.objs.size) (.ref r) (.ref s.heap.objs.size)) _ _ _;refine kdl_extend (A:=A) (R:=λx s'=>match x with
  | .ok (.ret v)=>aac (aan prog w) A (match v with
   | .ref a=>do match (←load a).data with
    | .seq xs _=>pure xs.toList
    |_=>unsupported "internal:collect"
   |_=>unsupported "internal:collect") Q E s'
  | .ok _=>False
  | .error e=>E e s') (s:={s with heap:=s.heap.push {cls:=.type "list",data:=.seq ([]:List ZR).toArray}}) K hh (K.keep _ _ hok λb _ o e=>ZP _ e) _ (ab9 lt.1) (ab9 lt.2) _ 0 hS (λh' tk bE c' k' QH r_=>?_) hn
 change aac _ A (load s.heap.objs.size >>= _) _ _ _;refine ZE (wpAny_load QH ?_);exact ZJ (q h' tk bE (λb o e=>k' b o (aah (Z4 e)) (ZP _ e)) r_)
end
end Hc.Dw
namespace Hc.Sy
open PySem.SetTable Hc.Sx
theorem QY:Slot "set_iterator" "__next__" "set_iterator.__next__":=by
 refine .of (owner:="set_iterator") (n:="__next__") ?_ (by decide+kernel) (by decide+kernel) (by decide+kernel) ?_ ?_
 ·rw[typeLookup_type,builtinLookup_eq_fast];kernel_rfl
 ·first|exact .inl (by decide+kernel)|exact .inr (by decide+kernel)
 ·rw[isSubtype_type];kernel_rfl
theorem WQ:entryFor table "set_iterator.__next__"=some Builtin.«set_iterator.__next__»:=entryFor_of_tree (by kernel_rfl)
theorem WR (a:ZR):argsOk "set_iterator.__next__" ⟨[a],[]⟩:=by unfold argsOk;kernel_rfl
theorem WS:Slot "set_iterator" "__iter__" "set_iterator.__iter__":=by
 refine .of (owner:="set_iterator") (n:="__iter__") ?_ (by decide+kernel) (by decide+kernel) (by decide+kernel) ?_ ?_
 ·rw[typeLookup_type,builtinLookup_eq_fast];kernel_rfl
 ·first|exact .inl (by decide+kernel)|exact .inr (by decide+kernel)
 ·rw[isSubtype_type];kernel_rfl
theorem XY:entryFor table "set_iterator.__iter__"=some Builtin.«dict_keyiterator.__iter__»:=entryFor_alias (id':="dict_keyiterator.__iter__") (by kernel_rfl) rfl (by decide+kernel) (by kernel_rfl)
theorem XZ (a:ZR):argsOk "set_iterator.__iter__" ⟨[a],[]⟩:=by unfold argsOk;kernel_rfl
theorem X0:entryFor table "set.__iter__"=some Builtin.«frozenset.__iter__»:=entryFor_alias (id':="frozenset.__iter__") (by kernel_rfl) rfl (by decide+kernel) (by kernel_rfl)
theorem X1 (a:ZR):argsOk "set.__iter__" ⟨[a],[]⟩:=by unfold argsOk;kernel_rfl
def mT (w:acs)(h:acz)(a:Z_)(es:Array (Int×ZR))(ep:Nat)(t:ac_):Prop:=
 ∃o,h.get? a=some o/\o.ExactSet/\o.data=.set es ep t/\t.fits es.size=true/\t.plain=true/\(AY w=true\/t.led=true)/\R8 t.place/\t.place.size=es.size
theorem mT.at {es:Array (Int×ZR)}(x:mT w h a es ep t)(e:∀o,h.get? a=some o->h'.get? a=some o):mT w h' a es ep t:=by
 obtain⟨o,q,r⟩:=x;exact⟨o,e o q,r⟩
theorem mT.ty {es:Array (Int×ZR)}(x:mT w s.heap a es ep t):s.TypeIs (.ref a) "set":=by
 obtain⟨o,e,c,_⟩:=x;exact⟨o,e,c.1⟩
theorem mT.lt {es:Array (Int×ZR)}(x:mT w h a es ep t):a<h.objs.size:=by
 obtain⟨o,e,_⟩:=x;exact Z4 e
def vF (w:acs)(a:Z_)(ep:Nat)(es:Array (Int×ZR)):Array (Int×ZR):=if AY w=true then ae9 (w.params.setOrder a ep) es else es
def fD (w:acs)(t:ac_):Nat->Nat
 |0=>0
 |i+1=>if AY w=true then 0 else t.place.getD i 0+1
def Pw (w:acs)(a:Z_)(n ep:Nat)(t:ac_)(i:Nat):Array ZR:=#[.int (fD w t i:Nat) 0,.int i 0,.ref a,.int n 0,.int ep 0]
def BV (w:acs)(h:acz)(it a:Z_)(n ep:Nat)(t:ac_)(i:Nat):Prop:=∃o,h.get? it=some o/\o.cls=.type "set_iterator"/\o.data=.fields (Pw w a n ep t i)
theorem BV.at (x:BV w h it a n ep t i)(e:∀o,h.get? it=some o->h'.get? it=some o):BV w h' it a n ep t i:=by
 obtain⟨o,q,r⟩:=x;exact⟨o,e o q,r⟩
theorem fL {A:aaC}{α:Type}{b:Bool}{x y:Sem α}{Q:α->Z5->Prop}(h:b=false)(q:aac M A y Q E s):aac M A (if b=true then x else y) Q E s:=by
 rw[h,hV ZM];exact q
section
variable {A:aaC}{es:Array (Int×ZR)}
theorem SK (x:mT w s.heap a es ep t)(q:Q (.ref s.heap.objs.size) {s with heap:=s.heap.push {cls:=.type "set_iterator",data:=.fields (Pw w a es.size ep t 0)}}):aac (aan prog w) A (pyIter (.ref a)) Q E s:=by
 have ty:=x.ty;obtain⟨o,e1,e2,e3,e4,e5,e6,e7,e8⟩:=x;refine ac1 ty PySem.F.slot_set_iter (aat PySem.F.slot_set_iter ty X0 ?_ (X1 _));unfold Builtin.«frozenset.__iter__» Builtin.Frozenset.slot0 slotArgs;simp only[List.isEmpty_nil,aaz,aaq,↓reduceIte,bind_assoc,abM,bne_self_eq_false];unfold Builtin.Frozenset.addrOf Builtin.Frozenset.sizeOf;refine ZE (ZJ ?_)
 try dsimp only
 refine ZE (ZJ ?_);refine ZE (ZE (aev e1 e3 e4 (ZJ ?_)));unfold setDrawn setsByText;refine ZE (ZE (aaZ e1 e3 e4 ?_));dsimp only;refine ZE (ZE (abS (ZJ (ZJ ?_))));have nd:(!(w.params.followText "set-order")&&(!t.plain&&decide (es.size>1)))=false:=by rw[e5];simp
 refine fL nd ?_;refine ZE (ZJ ?_);unfold setEpoch;refine ZE (ZE (aaZ e1 e3 e4 (ZJ ?_)));refine ZE (aav (ZJ ⟨_,rfl,"set_iterator",_,⟨_,ZW _ rfl,rfl⟩,QY.lookup,?_⟩));simpa [aeg,Pw,fD] using q
theorem xI {Q:Option (ZR×Nat)->Z5->Prop}(x:mT w s.heap a es ep t)(hi:i<es.size){e:Int×ZR}(he:(vF w a ep es)[i]? = some e)(q:Q (some (e.2,fD w t (i+1))) s) :
  aac (aan prog w) A (setNext a (fD w t i) i ep) Q E s:=by
 obtain⟨o,e1,e2,e3,e4,e5,e6,e7,e8⟩:=x;unfold setNext;refine ZE (aaZ e1 e3 e4 ?_);dsimp only;unfold setsByText;refine ZE (ZE (abS (ZJ ?_)));unfold vF at he;by_cases b:AY w=true
 ·rw[hZ b] at he;rw[hZ (show (aan prog w).w.params.followText "set-order"=true from b),hV (by simp)];unfold setWalk setsByText;refine ZE (ZE (aaZ e1 e3 e4 ?_));dsimp only;refine ZE (ZE (abS (ZJ ?_)));rw[hZ (show (aan prog w).w.params.followText "set-order"=true from b)];refine ZE (abS (ZJ (ZJ ?_)));have J8:(ae9 ((aan prog w).w.params.setOrder a ep) es)[i]? = some e:=he;rw[J8];have z:fD w t i=0:=by
   cases i with
   |zero=>rfl
   |succ i=>show (if AY w=true then 0 else _)=0;rw[hZ b]
  have z':fD w t (i+1)=0:=by show (if AY w=true then 0 else _)=0;rw[hZ b]
  rw[z'] at q;rw[z];exact q
 ·rw[hV b] at he;rw[hV (show ¬(aan prog w).w.params.followText "set-order"=true from b)];have led:t.led=true:=e6.resolve_left b;have nd:(!t.plain&&decide (es.size>1))=false:=by rw[e5];rfl
  refine fL nd ?_;refine ZE (acM (a:=()) (by show (if (!t.led && !es.isEmpty)=true then _ else _)=_;rw[led];rfl) (ZJ ?_));have hb:below t.place (fD w t i)=i:=by
   obtain⟨b1,b2,b3⟩:=oN (j:=fD w t i) e7;rcases adV (below t.place (fD w t i)) i with z|z|z
   ·exfalso;cases i with
    |zero=>lia
    |succ i=>
     have hs:fD w t (i+1)=t.place.getD i 0+1:=by show (if AY w=true then 0 else _)=_;rw[hV b]
     have g:t.place.getD i 0=t.place[i]'(by lia):=by simp[adU,show i<t.place.size from by lia]
     have:=b2 i (by lia) (by lia);rw[hs,g] at this;lia
   ·exact z
   ·exfalso;have:=b1 i (by lia) z;cases i with
    |zero=>exact absurd this (Nat.not_lt_zero _)
    |succ i=>
     have hs:fD w t (i+1)=t.place.getD i 0+1:=by show (if AY w=true then 0 else _)=_;rw[hV b]
     have g:t.place.getD i 0=t.place[i]'(by lia):=by simp[adU,show i<t.place.size from by lia]
     have r:=(show t.place[i]'(by lia)<t.place[i+1]'(by lia) from e7 i (i+1) (by lia) (by lia) (by lia));rw[hs,g] at this;lia
  rw[hb,he,getElem?_pos t.place i (by lia)];have hs:fD w t (i+1)=t.place.getD i 0+1:=by show (if AY w=true then 0 else _)=_;rw[hV b]
  have g:t.place.getD i 0=t.place[i]'(by lia):=by simp[adU,show i<t.place.size from by lia]
  rw[hs,g] at q;exact q
theorem SM {Q:Option ZR->Z5->Prop}(k:BV w s.heap it a es.size ep t i)(x:mT w s.heap a es ep t)(ne:it≠a)(hi:i<es.size){e:Int×ZR}(he:(vF w a ep es)[i]? = some e)
  (q:∀h',BV w h' it a es.size ep t (i+1)->aa0 it s.heap h'->Q (some e.2) {s with heap:=h'}):aac (aan prog w) A (adm (.ref it)) Q E s:=by
 obtain⟨oi,i1,i2,i3⟩:=k;have ty:s.TypeIs (.ref it) "set_iterator":=⟨oi,i1,i2⟩;have x0:=x;obtain⟨o,e1,e2,e3,e4,e5,e6,e7,e8⟩:=x;unfold adm;refine ZE (aca (aaG (name:=aay "__next__") ty QY (aat QY ty WQ ?_ (WR _))));unfold Builtin.«set_iterator.__next__»;refine ZE (ZJ ?_);refine ZE (ac8 i1 i3 ?_);change aac _ _ (setEntries a >>= _) _ _ s;refine ZE (aev e1 e3 e4 ?_);rw[hV (by simp)];change aac _ _ (setNext a (fD w t i:Int).toNat (i:Int).toNat (ep:Int).toNat >>= _) _ _ s;rw[aar,aar,aar];refine ZE (xI x0 hi he ?_);dsimp only;change aac _ _ (aeN (.ref it) 0 _ >>= _) _ _ s;refine ZE (ace i1 i3 (by simp[Pw]) ?_);have Xt:=abL (Obj.mapFields (·.setIfInBounds 0 (aeg (fD w t (i+1):Nat)))) i1 (acN (aby i3 _));have V_:=aby i3 (·.setIfInBounds 0 (aeg (fD w t (i+1):Nat)));change aac _ _ (aeN (.ref it) 1 _ >>= _) _ _ _;refine ZE (ace Xt V_ (by simp[Pw]) ?_);refine ZJ ⟨_,rfl,ZJ (q _ ⟨_,abL _ Xt (acN (aby V_ _)),(adX ..).trans ((adX ..).trans i2),?_⟩ ((aaU ..).trans (aaU ..)))⟩;rw[aby V_];simp[Pw,aeg]
end
end Hc.Sy
namespace Hc.Sy
open PySem.SetTable Hc.Sx PySem.W
section
variable {A:aaC}{es:Array (Int×ZR)}
theorem DQ {α:Type}(next:Nat->Nat):∀(n k:Nat) (left:List α) (out:Array α),left.length=n->(pickOrder.go next n k left out).toList.Perm (out.toList++left)
 |0,k,left,out,h=>by
  have:left=[]:=acy h;subst this;unfold pickOrder.go;rw[aaW]
 |n+1,k,left,out,h=>by
  have hl:next k % left.length<left.length:=ac0 _ (by lia)
  unfold pickOrder.go;rw[ZH hl];dsimp only;refine (DQ next n (k+1) _ _ (by rw[List.length_eraseIdx_of_lt hl];lia)).trans ?_;rw[Array.toList_push,abD];refine ad6 _ ?_;rw[List.eraseIdx_eq_take_drop_succ,List.singleton_append];refine List.perm_middle.symm.trans ?_;rw[←aaL hl,ad7]
theorem wJ {α:Type}(next:Nat->Nat)(xs:Array α):(ae9 next xs).toList.Perm xs.toList:=by
 have:=DQ next xs.size 0 xs.toList #[] (by simp)
 simpa [ae9] using this
theorem zW:(vF w a ep es).toList.Perm es.toList:=by
 unfold vF;split
 ·exact wJ _ _
 ·exact abj _
theorem zX:(vF w a ep es).size=es.size:=by
 have:=(zW (w:=w) (a:=a) (ep:=ep) (es:=es)).length_eq;simpa using this
theorem xJ {Q:Option (ZR×Nat)->Z5->Prop}(x:mT w s.heap a es ep t)(q:Q none s):aac (aan prog w) A (setNext a (fD w t es.size) es.size ep) Q E s:=by
 obtain⟨o,e1,e2,e3,e4,e5,e6,e7,e8⟩:=x;unfold setNext;refine ZE (aaZ e1 e3 e4 ?_);dsimp only;unfold setsByText;refine ZE (ZE (abS (ZJ ?_)));by_cases b:AY w=true
 ·rw[hZ (show (aan prog w).w.params.followText "set-order"=true from b),hV (by simp)];unfold setWalk setsByText;refine ZE (ZE (aaZ e1 e3 e4 ?_));dsimp only;refine ZE (ZE (abS (ZJ ?_)));rw[hZ (show (aan prog w).w.params.followText "set-order"=true from b)];refine ZE (abS (ZJ (ZJ ?_)));have hz:(ae9 ((aan prog w).w.params.setOrder a ep) es)[es.size]? = none:=by
   have:=(wJ ((aan prog w).w.params.setOrder a ep) es).length_eq;rw[ab3 (by simpa using Nat.le_of_eq this)]
  rw[hz];exact q
 ·rw[hV (show ¬(aan prog w).w.params.followText "set-order"=true from b)];have led:t.led=true:=e6.resolve_left b;have nd:(!t.plain&&decide (es.size>1))=false:=by rw[e5];rfl
  refine fL nd ?_;refine ZE (acM (a:=()) (by show (if (!t.led && !es.isEmpty)=true then _ else _)=_;rw[led];rfl) (ZJ ?_));have hb:es.size<=below t.place (fD w t es.size):=by
   obtain⟨b1,b2,b3⟩:=oN (j:=fD w t es.size) e7;rcases acL (below t.place (fD w t es.size)) es.size with z|z
   ·exfalso;obtain⟨m,hm⟩:∃m,es.size=m+1:=⟨es.size-1,by lia⟩;have hs:fD w t es.size=t.place.getD m 0+1:=by rw[hm];show (if AY w=true then 0 else _)=_;rw[hV b]
    have g:t.place.getD m 0=t.place[m]'(by lia):=by simp[adU,show m<t.place.size from by lia]
    have:=b2 m (by lia) (by lia);rw[hs,g] at this;lia
   ·exact z
  rw[ab3 hb];exact q
theorem SN {Q:Option ZR->Z5->Prop}(hh:A.handled=none)(k:BV w s.heap it a es.size ep t es.size)(x:mT w s.heap a es ep t)
  (q:∀h',Heap.ExtBut it s.heap h'->Q none {s with heap:=h'}):aac (aan prog w) A (adm (.ref it)) Q E s:=by
 obtain⟨oi,i1,i2,i3⟩:=k;have ty:s.TypeIs (.ref it) "set_iterator":=⟨oi,i1,i2⟩;have x0:=x;obtain⟨o,e1,e2,e3,e4,e5,e6,e7,e8⟩:=x;unfold adm;refine ZE (aca (aaG (name:=aay "__next__") ty QY (aat QY ty WQ ?_ (WR _))));unfold Builtin.«set_iterator.__next__»;refine ZE (ZJ ?_);refine ZE (ac8 i1 i3 ?_);change aac _ _ (setEntries a >>= _) _ _ s;refine ZE (aev e1 e3 e4 ?_);rw[hV (by simp)];change aac _ _ (setNext a (fD w t es.size:Int).toNat (es.size:Int).toNat (ep:Int).toNat >>= _) _ _ s;rw[aar,aar,aar];refine ZE (xJ x0 ?_);dsimp only;change aac _ _ (aeN (.ref it) 2 .none >>= _) _ _ s;refine ZE (ace i1 i3 (by simp[Pw]) ?_);change aac _ _ (newExc (.type "StopIteration") [] >>= _) _ _ _;refine ZE ?_;simp only[newExc,newTuple];refine ZE (aav (hd:=by size_fits) ?_);refine ZE (m:=acf _ _) (acM (a:=Value.none) (by first|rfl|(simp only[acf];rfl)) (aav (hd:=by size_fits) ?_));simp only[raiseNew];refine ZE (wpAny_handled ?_);rw[show A.in1.handled=none from hh];refine ZE (ZJ (wpAny_throw ?_));refine ZE (acv (b:=true) (T:="StopIteration") ⟨_,ZW _ rfl,rfl⟩ aeR ?_);exact ZJ (q _ (((aaU ..).extBut.push _).push _))
theorem Px (hh:A.handled=none)(A6:a≠it):Walks prog w A it [it,a] [it] es.size (λi v=>∃e,(vF w a ep es)[i]? = some e/\v=e.2) (λi h=>BV w h it a es.size ep t i/\mT w h a es ep t) where
 sub:=λb hb=>by simp at hb;simp[hb]
 frame:=λ_ _ _ st hk=>⟨st.1.at λo e=>hk it (by simp) o e,st.2.at λo e=>hk a (by simp) o e⟩
 item:=λi s Q E hi st hQ=>by
  have yE:i<(vF w a ep es).size:=by rw[zX];exact hi
  exact SM st.1 st.2 (Ne.symm A6) hi (getElem?_pos _ i yE) λh' t' sb=>hQ _ h' s.toks ⟨_,getElem?_pos _ i yE,rfl⟩ ⟨t',st.2.at λo e=>sb.extBut _ _ A6 e⟩ λb o hb e=>sb.extBut b o (λh=>hb (by simp[h])) e
 done:=λs Q E st hQ=>SN hh st.1 st.2 λh' eb=>hQ h' s.toks λb o hb e=>eb b o (λh=>hb (by simp[h])) e
 self:=λi s Q E st hQ=>by
  obtain⟨oi,i1,i2,i3⟩:=st.1;have ty:s.TypeIs (.ref it) "set_iterator":=⟨oi,i1,i2⟩;refine ac1 ty WS (aat WS ty XY ?_ (XZ _));change aac _ _ (ret (.ref it)) _ _ s;exact ZJ ⟨_,rfl,"set_iterator",_,ty,QY.lookup,hQ⟩
theorem SO {Q:Bool->Z5->Prop}(hT:s.TypeIs (.ref a) "set")(h:Q false s):aac (aan prog w) A (aew (.ref a)) Q E s:=by
 unfold aew;refine ZE (acH hT PySem.F.slot_set_len.lookup ?_);generalize hid:("set.__len__":String)=id0
 wp_delta
 rw[show splitId id0=some ("set","__len__") from by subst hid;decide+kernel];subst hid;refine ZE (acv (T:="set") (b:=true) hT (by rw[isSubtype_type];kernel_rfl) ?_);refine wpAny_ite_split (λxi=>absurd xi (by decide)) (λ_=>?_);refine wpAny_ite_split (λ_=>?_) (λxi=>absurd (by decide+kernel) xi);refine ZE (wpAny_typeOf hT ?_);exact ZJ h
theorem Vs:KdlSrc prog w "set" a a es.size (λi v=>∃e,(vF w a ep es)[i]? = some e/\v=e.2) (λh=>mT w h a es ep t) where
 type:=λ_ hm=>hm.ty
 there:=λ_ hm=>⟨hm.lt,hm.lt⟩
 keep:=λ_ _ hm hk=>hm.at λo e=>hk a (.inl rfl) o e
 notList:=by decide
 notTuple:=by decide
 hint:=λ_ _ _ _ hm hq=>SO hm.ty hq
 iter:=λ_ s hh hm=>⟨_,_,(λ_ _ hq=>SK hm hq),Px hh (aah hm.lt),⟨⟨_,ZW _ rfl,rfl,rfl⟩,hm.at λo e=>ZP _ e⟩⟩
end
end Hc.Sy
namespace Hc.Sy
open PySem.SetTable Hc.Sx PySem.W
abbrev tI (prog:acC)(w:acs):adC prog w (List Int):=aeU (intKind prog w)
section
variable {A:aaC}
theorem uy {α β:Type}(f:α->β->Sem (ForInStep β))(b:β)(xs:Array α)(h:∀x∈xs.toList,f x b=pure (.yield b)):forIn xs b f=pure b:=by
 rw[←aeJ];generalize xs.toList=l at h
 induction l with
 |nil=>rfl
 |cons x l ih=>
  rw[adB,h x ZG,pure_bind];exact ih λy hy=>h y (ZK _ hy)
theorem NI {aD:Array ZR}{o:Obj}{Q:Option (Array ZR)->Z5->Prop}(e1:s.heap.get? a=some o)(e3:o.data=.seq aD n)(q:Q (some aD) s):aac (aan prog w) A (seqItems? (.ref a)) Q E s:=by
 unfold seqItems?;refine ZE (wpAny_load e1 ?_);rw[e3];exact ZJ q
theorem uz {ks:List Int}{vs:List ZR}(h:ItemsAre (intKind prog w) ks vs):∀v∈vs,∃n t,v=.int n t:=by
 induction h with
 |nil=>intro v hv;cases hv
 | @cons k v' ks vs h1 _ ih=>
  intro v hv;rcases ZX.mp hv with rfl|hv
  ·obtain⟨t,rfl⟩:=Value.isInt_shape h1;exact⟨k,t,rfl⟩
  ·exact ih v hv
theorem X2:qB (tI prog w) where
 cls:=λ{A E s k a Q} hk q=>by
  obtain⟨o,aD,n,e1,e2,e3,e4⟩:=hk;have ty:s.TypeIs (.ref a) "tuple":=⟨o,e1,e2⟩;unfold ofAClassStatement;refine ZE (wpAny_typeOf ty ?_);change aac _ _ (pure true >>= _) _ _ s;refine ZE (ZJ ?_);change aac _ _ (seqItems? (.ref a) >>= _) _ _ s;refine ZE (NI e1 e3 ?_);dsimp only;rw[uy]
  ·exact ZE (ZJ (ZJ q))
  ·intro x hx;obtain⟨n,t,rfl⟩:=uz e4 x hx;rfl
 byv:=λ{A E s k a Q} hk q=>by
  obtain⟨o,aD,n,e1,e2,e3,e4⟩:=hk;have ty:s.TypeIs (.ref a) "tuple":=⟨o,e1,e2⟩;unfold hashByValue;refine ZE (acH ty PySem.F.slot_tuple_hash.lookup ?_);change aac _ _ (seqItems? (.ref a) >>= _) _ _ s;refine ZE (NI e1 e3 ?_);dsimp only[Option.getD];rw[uy]
  ·exact ZE (ZJ (ZJ q))
  ·intro x hx;obtain⟨n,t,rfl⟩:=uz e4 x hx;rfl
 kept:=λ{h h' k a d o es ep t} hk ho hd hs=>by
  obtain⟨o1,aD,n,e1,e2,e3,e4⟩:=hk;have ne:a≠d:=λz=>by
   subst z;rw[e1] at ho;cases ho;rw[e3] at hd;cases hd
  exact⟨o1,aD,n,hs.extBut _ _ ne e1,e2,e3,e4⟩
end
end Hc.Sy
namespace L2
open Hc.Dw Hc.Ts
def SQ:V->Int
 | .int i=>i
 |_=>0
def dz (H:Hp)(b:Z_):List Int:=match H b with
 |some (.tup xs)=>xs.map SQ
 |_=>[]
theorem zY (ns:List Int):(ns.map V.int).map SQ=ns:=by
 induction ns with
 |nil=>rfl
 |cons n r ih=>rw[ZI,ZI,ih];rfl
def Py (K:ZN)(H:Hp)(p:Z_)(bs:List Z_):Prop:=fu K H p (bs.map V.ref)\/iC K H p (bs.map V.ref)\/∃ep es,H p=some (DN p ep es)/\es.map (·.2.1)=bs
theorem mE:∀{bs:List Z_} {aD:List ZR},bg (bs.map V.ref) aD->aD=bs.map Value.ref
 | [],_,.nil=>rfl
 |b::bs,_,.cons r t=>by rw[ZI,mE t];cases r;rfl
theorem wK:∀(bs:List Z_),bg (bs.map V.ref) (bs.map Value.ref)
 | []=>.nil
 |b::bs=>.cons rfl (wK bs)
theorem wL {bs:List Z_}{out:List ZR}(h:out.Perm (bs.map Value.ref)):∃lr:List Z_,out=lr.map Value.ref/\lr.Perm bs:=by
 let g:ZR->Z_:=λv=>match v with
  | .ref a=>a
  |_=>0
 refine⟨out.map g,?_,?_⟩
 ·rw[ZY]
  conv=>lhs;rw[←List.map_id out]
  apply Z2;intro v hv;obtain⟨b,_,rfl⟩:=ZO.mp (h.mem_iff.mp hv);rfl
 ·have:=h.map g;rw[ZY] at this;have e:bs.map (g∘Value.ref)=bs:=by
   conv=>rhs;rw[←List.map_id bs]
   apply Z2;intro b _;rfl
  rw[e] at this;exact this
theorem Lj (I:aL X pins σ H s)(h:H b=some (.tup (ns.map V.int)))(n:ns≠[]):zT s.heap (.ref b)/\xH s.heap (.ref b)=dz H b:=by
 obtain⟨_,aD,rv,it,_⟩:=I.hok b _ h;have ia:=i9 rv;refine⟨⟨b,aD.toArray,ns,rfl,it,by simpa using ia,n⟩,?_⟩;rw[oV it (by simpa using ia)];unfold dz;rw[h];exact (zY ns).symm
theorem wM {v:ZR}(t:zT h v)(k:∀b aD,h.IsTuple b aD->h'.IsTuple b aD):zT h' v/\xH h' v=xH h v:=by
 obtain⟨a,aD,ns,rfl,q,i,n⟩:=t;refine⟨⟨a,aD,ns,rfl,k a aD q,i,n⟩,?_⟩;rw[oV q i,oV (k a aD q) i]
theorem DR {h:acz}:∀{vs:List ZR},(∀v∈vs,zT h v)->∃fs,PySem.W.KatTups h vs fs/\fs.length=vs.length/\∀f∈fs,∃n t,f=.int n t
 | [],_=>⟨[],.nil,rfl,λf hf=>by cases hf⟩
 |v::vs,hv=>by
  obtain⟨fs,k1,k2,k3⟩:=DR (vs:=vs) λu hu=>hv u (ZK _ hu);obtain⟨a,aD,ns,rfl,⟨o,e,c,n,d⟩,i,ne⟩:=hv v ZG;have:∃m t r,aD.toList=.int m t::r:=by
   generalize aD.toList=l at i;cases i with
   |nil=>exact absurd rfl ne
   |cons m t r=>exact⟨m,t,_,rfl⟩
  obtain⟨m,t,r,el⟩:=this;refine⟨.int m t::fs,.cons e c d (by rw[←aaj,el];rfl) k1,by rw[Z0,Z0,k2],λf hf=>?_⟩;rcases ZX.mp hf with rfl|hf
  ·exact⟨m,t,rfl⟩
  ·exact k3 f hf
def SS:ZR->Z_
 | .ref a=>a
 |_=>0
theorem BW {O:KeyOrd}{p:Z_}{bs:List Z_}{Q:VK}(kf:Z_->O.α)(knd:SortKind)(I:aL X pins σ H s)(hz:bs.length<64)(hu:X.A.units+64<abo)
  (kk:∀(A:aaC) (E:ZR->Z5->Prop) (ky:List Z_) (s6:Z5) (Q6:SortKind->Z5->Prop),ky.Perm bs->2<=ky.length->(∀b o,s.heap.get? b=some o->s6.heap.get? b=some o)->Q6 knd s6->aac (aan X.prog X.w) A (keyKind' (ky.map Value.ref).toArray) Q6 E s6)
  (kc:2<=bs.length->∀(A:aaC) (E:ZR->Z5->Prop) (s6:Z5),A.units<abo->(∀b o,s.heap.get? b=some o->s6.heap.get? b=some o)->Im (aan X.prog X.w) A E s6 O (λx=>kf (SS x.1)) knd (λx=>∃b∈bs,x.1=.ref b))
  (T8:∀(Q:List ZR->Z5->Prop) (E:ZR->Z5->Prop),(∀h1 tk (ky:List Z_),ky.Perm bs->(∀b o,s.heap.get? b=some o->h1.get? b=some o)->Q (ky.map Value.ref) {s with heap:=h1,toks:=tk})->aac (aan X.prog X.w) X.A.in1 (collect (.ref p)) Q E s)
  (q:∀(l:Z_) (lr:List Z_),H l=none->lr.Perm bs->lr.Pairwise (λx y=>O.blt (kf y) (kf x)=false)->Q (.ref l) (cH H l (.lst (lr.map V.ref)))) :
  aac (aan X.prog X.w) X.A (call (.builtin "sorted") [.ref p]) (EP X pins σ Q) X.xe s:=by
 refine aeP kind_sorted plain_sorted entry_sorted (args_sorted1 _) ?_;unfold Builtin.«sorted»;refine ZE (m:=checkCount "sorted" 1 1 _) (ZJ ?_);refine ZE (T8 _ _ λh1 tk ky yO k1=>?_);have hz:ky.length<64:=by rw[yO.length_eq];exact hz
 have J7:ky.length<=ZL:=by rw[abv];lia
 have I1:aL X pins σ H {s with heap:=h1,toks:=tk}:=I.kept (t':=tk) k1;refine ZE (wpAny_newList ?_ (by rw[ZF];exact J7));have QI:(h1.push {cls:=.type "list",data:=.seq (ky.map Value.ref).toArray}).get? h1.objs.size=some (aeI "list" (ky.map Value.ref).toArray 0):=ZW _ rfl;have kt:∀(h6:acz),(∀b o,b≠h1.objs.size->(h1.push {cls:=.type "list",data:=.seq (ky.map Value.ref).toArray}).get? b=some o->h6.get? b=some o)->∀b o,s.heap.get? b=some o->h6.get? b=some o:=λh6 k6 b o e=>
  k6 b o (aah (Z4 (k1 b o e))) (ZP _ (k1 b o e))
 refine ZE (aa9 (aat slot_list_sort ⟨_,QI,rfl⟩ entry_list_sort (Iu (s:={s with heap:=h1.push {cls:=.type "list",data:=.seq (ky.map Value.ref).toArray},toks:=tk}) (O:=O) (key:=λx=>kf (SS x.1)) (knd:=knd) (D:=λx=>∃b∈bs,x.1=.ref b) QI (by rw[ZF];exact hz)
  (λh2 h6 Q6 k6 q6=>kk _ _ ky _ _ yO (by rw[ZF] at h2;exact h2) (kt h6 k6) q6) (λh2 h6 k6=>kc (by rw[ZF] at h2;rw[←yO.length_eq];exact h2) _ _ _ (by show X.A.units+1+1<abo;lia) (kt h6 k6)) (λv hv=>by
   obtain⟨b,hb,rfl⟩:=ZO.mp hv;exact⟨b,yO.mem_iff.mp hb,rfl⟩) λout hp hw=>⟨_,rfl,?_⟩) (args_list_sort _)))
 obtain⟨lr,e,J9⟩:=wL hp;subst e;obtain⟨ee,he⟩:=sortedHeap_at (out:=(lr.map Value.ref).toArray) QI;have keep:∀b o,h1.get? b=some o->(sortedHeap (h1.push {cls:=.type "list",data:=.seq (ky.map Value.ref).toArray}) h1.objs.size (ky.map Value.ref) (lr.map Value.ref).toArray).get? b=some o:=λb o e=>by
  have hb:=Z4 e;rw[sortedHeap_old (aah hb) (by rw[abJ];exact acY hb)];exact ZP _ e
 have Oa:(lr.map V.ref).length<=ZL:=by rw[ZF,J9.length_eq];exact J7
 refine ZJ ⟨_,rfl,.ref h1.objs.size,_,I1.laid (t':=tk) keep (ZS _) (show dH X.prog X.w _ _ _ (.lst _) from ⟨Oa,lr.map Value.ref,ee,wK lr,by simpa using he⟩),rfl,q _ lr (I1.hok.fresh (ZS _)) (J9.trans yO) ?_⟩;exact abE.mp hw
theorem qZ {p:Z_}{bs:List Z_}{Q:VK}(I:aL X pins σ H s)(hz:bs.length<64)(hu:X.A.units+64<abo)(tu:∀b∈bs,∃ns:List Int,H b=some (.tup (ns.map V.int))/\ns≠[])
  (T8:∀(Q:List ZR->Z5->Prop) (E:ZR->Z5->Prop),(∀h1 tk (ky:List Z_),ky.Perm bs->(∀b o,s.heap.get? b=some o->h1.get? b=some o)->Q (ky.map Value.ref) {s with heap:=h1,toks:=tk})->aac (aan X.prog X.w) X.A.in1 (collect (.ref p)) Q E s)
  (q:∀(l:Z_) (lr:List Z_),H l=none->lr.Perm bs->lr.Pairwise (λx y=>iE (dz H y) (dz H x)=false)->Q (.ref l) (cH H l (.lst (lr.map V.ref)))) :
  aac (aan X.prog X.w) X.A (call (.builtin "sorted") [.ref p]) (EP X pins σ Q) X.xe s:=by
 have tI:∀b∈bs,zT s.heap (.ref b)/\xH s.heap (.ref b)=dz H b:=λb hb=>by
  obtain⟨ns,e,ne⟩:=tu b hb;exact Lj I e ne
 have kt:∀(h6:acz),(∀b o,s.heap.get? b=some o->h6.get? b=some o)->∀b aD,s.heap.IsTuple b aD->h6.IsTuple b aD:=λh6 k6 b aD ⟨o,e,z⟩=>⟨o,k6 b o e,z⟩;refine BW (O:=Lh) (dz H) (tuples' true) I hz hu (λA E ky s6 Q6 yO h2 k6 q6=>?_) (λ_ A E s6 hA k6=>?_) T8 q
 ·obtain⟨fs,f1,f2,f3⟩:=DR (h:=s6.heap) (vs:=ky.map Value.ref) λv hv=>by
   obtain⟨b,hb,rfl⟩:=ZO.mp hv;exact (wM (tI b (yO.mem_iff.mp hb)).1 (kt _ k6)).1
  exact PySem.W.kat_kind (T:=.type "int") f1 (by rw[f2,ZF];lia) (λv hv=>by
   obtain⟨n,t,rfl⟩:=f3 v hv;exact PySem.W.Looks.of_pure rfl) (by decide) q6
 ·have c:=Li (prog:=X.prog) (w:=X.w) (A:=A) (E:=E) (s:=s6) (hp:=s.heap) λv hv=>wM hv (kt _ k6);refine⟨λx y st Q dx dy kd qq=>?_⟩;obtain⟨b,hb,e1⟩:=dx;obtain⟨d,hd,e2⟩:=dy;refine c.lt x y st Q (by rw[e1];exact (tI b hb).1) (by rw[e2];exact (tI d hd).1) kd ?_;rw[e1,e2,(tI b hb).2,(tI d hd).2];rw[e1,e2] at qq;exact qq
theorem xK (hc:X.calm=true)(hu:X.A.units+64<abo):fB X (.builtin "sorted") (λxs H Q=>∃(p:Z_) (bs:List Z_),xs=[.ref p]/\Py X.K H p bs/\bs.length<64/\(∀b∈bs,∃ns:List Int,H b=some (.tup (ns.map V.int))/\ns≠[])/\
  ∀(l:Z_) (lr:List Z_),H l=none->lr.Perm bs->lr.Pairwise (λx y=>iE (dz H y) (dz H x)=false)->Q (.ref l) (cH H l (.lst (lr.map V.ref)))):=by
 intro pins s σ H xs us Q I r h;obtain⟨p,bs,rfl,Mr,hz,tu,q⟩:=h;obtain⟨u,rfl,rx⟩:=jE r;cases rx;have J7:bs.length<=ZL:=by rw[abv];lia
 have T8:∀(Q:List ZR->Z5->Prop) (E:ZR->Z5->Prop),(∀h1 tk (ky:List Z_),ky.Perm bs->(∀b o,s.heap.get? b=some o->h1.get? b=some o)->Q (ky.map Value.ref) {s with heap:=h1,toks:=tk})->aac (aan X.prog X.w) X.A.in1 (collect (.ref p)) Q E s:=by
  intro Q E hq;rcases Mr with hs|hs|⟨ep,es,hs,rfl⟩
  ·obtain⟨aD,rv,pl,_⟩:=I.list hs;obtain⟨o,e,c,n,d⟩:=pl.isList;have e2:=mE rv;subst e2;exact ae1 p (.inl rfl) e c d (λh1 k1=>by simpa using hq h1 s.toks bs (abj _) k1) (by rw[ZZ,ZF];exact J7)
  ·obtain⟨aD,rv,pl,_⟩:=I.tuple hs;obtain⟨o,e,c,n,d⟩:=pl;have e2:=mE rv;subst e2;exact ae1 p (.inr rfl) e c d (λh1 k1=>by simpa using hq h1 s.toks bs (abj _) k1) (by rw[ZZ,ZF];exact J7)
  ·obtain⟨lo,ds,rd,n,at_⟩:=I.rawD hs;refine qY (A:=X.A.in1) (SJ lo) (I.ok.hd hc) rd (by rw[n];rw[ZF] at J7;exact J7) λh1 tk bE k1 ia=>?_;have e:bE.toList=(es.map (·.2.1)).map Value.ref:=by
    apply acZ;intro i;rw[aaj,ZY,ZT];by_cases hi:i<bE.size
    ·rw[getElem?_pos bE i hi];obtain⟨en,e1,e2⟩:=ia.2 i _ (getElem?_pos bE i hi);have yE:i<ds.size:=by rw[←ia.1];exact hi
     rw[getElem?_pos ds i yE] at e1;cases e1;obtain⟨x,m,ek,_⟩:=at_ i yE;rw[m,e2,ek];rfl
    ·rw[getElem?_neg bE i hi,List.getElem?_eq_none (by rw[←n,←ia.1];lia)];rfl
   rw[e];exact hq h1 tk _ (abj _) k1
 exact qZ I hz hu tu T8 q
end L2
namespace L2
open Hc.Dw Hc.Ts
def ah (ns:List Int):U:=.tup (ns.map .int)
def Lm:U->Option (List Int)
 | .tup xs=>match j6 xs with
  |some (n::ns)=>some (n::ns)
  |_=>none
 |_=>none
def q_:List U->Option (List (List Int))
 | []=>some []
 |u::us=>match Lm u,q_ us with
  |some ns,some lA=>some (ns::lA)
  |_,_=>none
def Fo (x:List Int):List (List Int)->List (List Int)
 | []=>[x]
 |y::r=>if iE y x=true then y::Fo x r else x::y::r
def eF (l:List (List Int)):List (List Int):=l.foldr Fo []
theorem p7 (x:List Int):∀l,(Fo x l).Perm (x::l)
 | []=>.refl _
 |y::r=>by
  unfold Fo;split
  ·exact ((p7 x r).cons y).trans (.swap x y r)
  ·exact .refl _
theorem aM:∀l,(eF l).Perm l
 | []=>.refl _
 |x::l=>(p7 x _).trans ((aM l).cons x)
def SV (l:List (List Int)):Prop:=l.Pairwise λx y=>iE y x=false
theorem DV (x:List Int):∀{l},SV l->SV (Fo x l)
 | [],_=>aaS _ _
 |y::r,h=>by
  obtain⟨h1,h2⟩:=abx.mp h;unfold Fo;split
  ·rename_i c;refine abx.mpr ⟨λz hz=>?_,DV x h2⟩;rcases ZX.mp ((p7 x r).mem_iff.mp hz) with rfl|hz
   ·exact KeyOrd.klt_asymm (O:=Lh) c
   ·exact h1 z hz
  ·rename_i c;have c:iE y x=false:=by simpa using c
   refine abx.mpr ⟨λz hz=>?_,h⟩;rcases ZX.mp hz with rfl|hz
   ·exact c
   ·exact adb (O:=Lh) (a:=x) (b:=y) (c:=z) c (h1 z hz)
theorem lT:∀l,SV (eF l)
 | []=>List.Pairwise.nil
 |x::l=>DV x (lT l)
theorem sL:∀{l m:List (List Int)},l.Perm m->SV l->SV m->l=m
 | [],m,p,_,_=>(List.nil_perm.mp p).symm
 |x::l,[],p,_,_=>absurd p.length_eq (by simp)
 |x::l,y::m,p,h1,h2=>by
  obtain⟨a1,a2⟩:=abx.mp h1;obtain⟨b1,b2⟩:=abx.mp h2;have e:x=y:=by
   have hx:x∈y::m:=p.mem_iff.mp ZG;have hy:y∈x::l:=p.mem_iff.mpr ZG;rcases ZX.mp hx with rfl|hx
   ·rfl
   ·rcases ZX.mp hy with rfl|hy
    ·rfl
    ·exact nI x y (b1 x hx) (a1 y hy)
  subst e;rw[sL (p.cons_inv) a2 b2]
theorem Ln (h:Lm u=some ns):u=ah ns/\ns≠[]:=by
 unfold Lm at h;split at h
 ·split at h
  ·rename_i xs n r e;cases h;rw[oH e];exact⟨rfl,by simp⟩
  ·cases h
 ·cases h
theorem j7:∀{us:List U} {lA:List (List Int)},q_ us=some lA->us=lA.map ah/\∀ns∈lA,ns≠[]
 | [],_,h=>by cases h;exact⟨rfl,λns hn=>by cases hn⟩
 |u::us,lA,h=>by
  unfold q_ at h;split at h
  ·rename_i ns r e1 e2;cases h;obtain⟨e3,n3⟩:=Ln e1;obtain⟨e4,n4⟩:=j7 e2;refine⟨by rw[ZI,←e3,←e4],λz hz=>?_⟩;rcases ZX.mp hz with rfl|hz
   ·exact n3
   ·exact n4 z hz
  ·cases h
theorem Pz (h:Rp K H A (ah ns) v):∃b,v=.ref b/\H b=some (.tup (ns.map V.int))/\ns.length<=ZL:=by
 unfold ah Rp at h;obtain⟨b,ys,e,q,l,r⟩:=h;rw[r.toI] at q;exact⟨b,e,q,by simpa using l⟩
theorem PB (q:H b=some (.tup (ns.map V.int)))(l:ns.length<=ZL):Rp K H A (ah ns) (.ref b):=by
 unfold ah Rp;exact⟨b,_,rfl,q,by simpa using l,oI ns⟩
theorem xM (q:H b=some (.tup (ns.map V.int))):dz H b=ns:=by unfold dz;rw[q];exact zY ns
theorem j8:∀{lA:List (List Int)} {xs:List V},aH K H A (lA.map ah) xs->∃bs:List Z_,xs=bs.map V.ref/\bs.map (dz H)=lA/\∀b∈bs,H b=some (.tup ((dz H b).map V.int))/\(dz H b).length<=ZL
 | [],xs,h=>by rw[aaI] at h;unfold aH at h;subst h;exact⟨[],rfl,rfl,λb hb=>by cases hb⟩
 |ns::lA,xs,h=>by
  rw[ZI] at h;unfold aH at h;obtain⟨x,r,rfl,h1,h2⟩:=h;obtain⟨b,rfl,q,l⟩:=Pz h1;obtain⟨bs,rfl,e,z⟩:=j8 h2;refine⟨b::bs,rfl,by rw[ZI,e,xM q],λc hc=>?_⟩;rcases ZX.mp hc with rfl|hc
  ·rw[xM q];exact⟨q,l⟩
  ·exact z c hc
theorem zZ {bs:List Z_}(h:∀b∈bs,H b=some (.tup ((dz H b).map V.int))/\(dz H b).length<=ZL):aH K H A ((bs.map (dz H)).map ah) (bs.map V.ref):=by
 induction bs with
 |nil=>exact aH.nil
 |cons b bs ih=>exact aH.cons (PB (h b ZG).1 (h b ZG).2) (ih λc hc=>h c (ZK _ hc))
def lU (us:List U):R U:=match q_ us with
 |some lA=>if lA.length<64 then .ok (.lst ((eF lA).map ah)) else .stk
 |none=>.stk
def uA:List U->R U:=λus=>match us with
 | [.lst xs]=>lU xs
 | [.tup xs]=>lU xs
 | [.dct ks _]=>if BQ ks=true then lU ks else .stk
 |_=>.stk
def xN (K:ZN):List V->Hp->VK->Prop:=λxs H Q=>∃(p:Z_) (bs:List Z_),xs=[.ref p]/\Py K H p bs/\bs.length<64/\(∀b∈bs,∃ns:List Int,H b=some (.tup (ns.map V.int))/\ns≠[])/\
  ∀(l:Z_) (lr:List Z_),H l=none->lr.Perm bs->lr.Pairwise (λx y=>iE (dz H y) (dz H x)=false)->Q (.ref l) (cH H l (.lst (lr.map V.ref)))
theorem Fp:mR K (xN K) .O uA:=λA H vs us z Q h mu e q=>by
 have fin:∀(xs:List U) (p:Z_) (bs:List Z_),lU xs=.ok z->aH K H A xs (bs.map V.ref)->Py K H p bs->xN K [.ref p] H Q:=by
  intro xs p bs e r Mr;unfold lU at e;split at e
  ·rename_i lA e1;split at e
   ·rename_i hz;cases e;obtain⟨e2,ne⟩:=j7 e1;subst e2;obtain⟨ky,e3,e4,e5⟩:=j8 r;have e6:bs=ky:=by
     have:Function.Injective V.ref:=λa b h=>by cases h;rfl
     exact (List.map_inj_right λ_ _ h=>by cases h;rfl).mp e3
    subst e6;have n1:bs.length=lA.length:=by rw[←e4,ZF]
    refine⟨p,bs,rfl,Mr,by lia,λb hb=>⟨_,(e5 b hb).1,ne _ (by rw[←e4];exact aaB hb)⟩,λl lr hn hp hw=>?_⟩;have e7:lr.map (dz H)=eF lA:=sL ((hp.map (dz H)).trans (by rw[e4];exact (aM lA).symm)) (abE.mpr hw) (lT lA);refine q _ _ (cR hn _) ⟨l,rfl,hn,?_⟩;rw[←e7];refine di mu (zZ λb hb=>e5 b (hp.mem_iff.mp hb)) hn ?_;have:ZL=16777216:=rfl;rw[ZF,ZF,hp.length_eq];lia
   ·cases e
  ·cases e
 unfold uA at e;split at e
 ·obtain⟨v,rfl,p⟩:=h.one;unfold Pk at p;obtain⟨a,ys,rfl,h1,l1,r1⟩:=p;have e':=e;unfold lU at e';split at e'
  ·rename_i lA e1;have r2:=r1;rw[(j7 e1).1] at r2;obtain⟨bs,rfl,_⟩:=j8 r2;exact fin _ a bs e r1 (.inl (fu.of h1))
  ·cases e'
 ·obtain⟨v,rfl,p⟩:=h.one;unfold Pk at p;obtain⟨a,ys,rfl,h1,l1,r1⟩:=p;have e':=e;unfold lU at e';split at e'
  ·rename_i lA e1;have r2:=r1;rw[(j7 e1).1] at r2;obtain⟨bs,rfl,_⟩:=j8 r2;exact fin _ a bs e r1 (.inr (.inl (iC.of h1)))
  ·cases e'
 ·rename_i ks ws;split at e
  ·rename_i c;obtain⟨v,rfl,p⟩:=h.one;unfold Pk at p;obtain⟨a,ys,rfl,h1,l1,r1⟩:=p;obtain⟨es,ep,q1,kt,e1,e2⟩:=BR c h1;refine fin ks a (es.map (·.2.1)) e ?_ (.inr (.inr ⟨ep,es,q1,rfl⟩));subst e1;clear e fin e2 r1 h1 c q1 h
   induction es with
   |nil=>exact aH.nil
   |cons x es ih=>exact aH.cons (Ik (kt x ZG)) (ih λy hy=>kt y (ZK _ hy))
  ·cases e
 ·cases e
def Iv (K:ZN):List V->Hp->VK->Prop:=λxs H Q=>∃(p:Z_) (ns:List Int),xs=[.ref p]/\(fu K H p (ns.map V.int)\/iC K H p (ns.map V.int))/\ns.length<64/\
  ∀(l:Z_) (xh:List Int),H l=none->xh.Perm ns->xh.Pairwise (·<=·)->Q (.ref l) (cH H l (.lst (xh.map V.int)))
def uB:List U->R U:=λus=>match Bw us with
 | .ok z=>.ok z
 |_=>uA us
theorem Iw:mR K (λxs H Q=>Iv K xs H Q\/xN K xs H Q) .O uB:=λA H vs us z Q h mu e q=>by
 unfold uB at e;split at e
 ·rename_i z' e1;cases e;exact .inl (E5 A H vs us _ Q h mu e1 q)
 ·exact .inr (Fp A H vs us z Q h mu e q)
theorem Fq (hc:X.calm=true)(hu:X.A.units+64<abo):fB X (.builtin "sorted") (λxs H Q=>Iv X.K xs H Q\/xN X.K xs H Q):=by
 intro pins s σ H xs us Q I r h;rcases h with h|h
 ·exact xm pins s σ H xs us Q I r h
 ·exact xK hc hu pins s σ H xs us Q I r h
end L2
namespace L2
open Hc.Dw Hc.Ts Hc.Sx Hc.Sy
def fA (bE:List (List Int))(x:List Int):List (List Int):=if x∈bE then bE else bE++[x]
def aP (l:List (List Int)):List (List Int):=l.foldl fA []
def BX (w:acs)(l:Z_)(bs:List Z_)(h:acz):Prop:=∃es ep t,mT w h l es ep t/\(es.toList.map (·.2)).Perm (bs.map Value.ref)
theorem Iy {vs:List ZR}(h:adQ vs ns):ItemsAre (intKind prog w) ns vs:=by
 induction h with
 |nil=>exact .nil
 |cons n t _ ih=>exact .cons (intKind_is _ _ _ _) ih
section
variable {e:abH}{pos lu p1 p2:Pos}{b1:Bool}{ga:Ev->R (List U×Ev)}
def oW (H:Hp)(bs:List Z_)(i:Nat):List Int×Z_:=(dz H (bs.getD i 0),bs.getD i 0)
theorem wN (H:Hp)(bs:List Z_):∀n,n<=bs.length->(fq (oW H bs) n).map (·.1)=aP ((bs.take n).map (dz H))
 |0,_=>by simp[fq,aP]
 |n+1,h=>by
  have hn:n<bs.length:=by lia
  have ih:=wN H bs n (by lia);have e1:bs.take (n+1)=bs.take n++[bs[n]]:=aai hn;have e2:oW H bs n=(dz H bs[n],bs[n]):=by unfold oW;simp[aet,ZH hn]
  rw[e1,aad];unfold aP at ih ⊢;rw[ae4,←ih];show (m5 (fq (oW H bs) n) (oW H bs n).1 (oW H bs n).2).map (·.1)=fA ((fq (oW H bs) n).map (·.1)) (dz H bs[n]);rw[e2];unfold m5 fA;dsimp only;by_cases c:dz H bs[n]∈(fq (oW H bs) n).map (·.1)
  ·rw[hZ c,hZ c]
  ·rw[hV c,hV c,aad];rfl
theorem z6 (H:Hp)(bs:List Z_):(fq (oW H bs) bs.length).map (·.1)=aP (bs.map (dz H)):=by
 rw[wN H bs _ (ZS _),aa7]
def Iz (w:acs)(K:ZN):List V->Hp->VK->Prop:=λxs H Q=>∃(p:Z_) (bs:List Z_),xs=[.ref p]/\fu K H p (bs.map V.ref)/\(∀b∈bs,H b=some (.tup ((dz H b).map V.int)))/\(aP (bs.map (dz H))).length<2046/\
 ∀(l:Z_) (ky:List Z_),H l=none->ky.map (dz H)=aP (bs.map (dz H))->(∀b∈ky,b∈bs)->Q (.ref l) (cH H l (.ext (BX w l ky)))
theorem wO (hc:X.calm=true)(hu:X.A.units+64<abo):fB X (.type "set") (Iz X.w X.K):=by
 intro pins s σ H xs us Q I r h;obtain⟨p,bs,rfl,hs,tu,hb,q⟩:=h;obtain⟨u,rfl,rx⟩:=jE r;cases rx;obtain⟨aD,rv,pl,_⟩:=I.list hs;have e2:=mE rv;subst e2;have sz:(bs.map Value.ref).toArray.size=bs.length:=by simp
 refine zE (knd:=tI X.prog X.w) (val:=oW H bs) X2 (λ{h h' k a} hk m=>?_) (show X.A.units+1+1+1<abo by lia) (I.ok.hd hc) pl.isList (λi v hv=>?_) (λj hj=>?_) ?_ λh' tk hS hk=>?_
 ·obtain⟨o,aD,n,e1,e2,e3,e4⟩:=hk;obtain⟨o',AS,Mv,n',e3'⟩:=m a aD ⟨o,e1,e2,n,e3⟩;exact⟨o',aD,n',AS,Mv,e3',e4⟩
 ·rw[←aaj] at hv;rw[ZT] at hv;unfold oW;cases z:bs[i]? with
  |none=>rw[z] at hv;cases hv
  |some b=>rw[z] at hv;simp only[aet,z,ade];exact (aab hv).symm
 ·have hj:j<bs.length:=by rw[sz] at hj;exact hj
  have em:bs.getD j 0=bs[j]:=by simp[aet,ZH hj]
  unfold oW;rw[em];obtain⟨_,aD,rv,it,_⟩:=I.hok _ _ (tu _ (aau hj));obtain⟨o,h1,h2,n,h3⟩:=it;exact⟨o,_,n,h1,h2,h3,by simpa using Iy (i9 rv)⟩
 ·rw[sz];have:=congrArg List.length (z6 H bs);rw[ZF] at this;lia
 ·rw[sz] at hS;obtain⟨o,es,ep,t,C,g1,g2,g3,g4,g5⟩:=hS;have T9:mT X.w h' s.heap.objs.size es ep t:=⟨o,g1,g2,g3,g4.fits,g4.pl,g5,g4.tab.ris,g4.tab.sz⟩;have mem:∀x∈fq (oW H bs) bs.length,x.1=dz H x.2/\x.2∈bs:=λx hx=>by
   obtain⟨j,hj,rfl⟩:=mB _ _ x hx;refine⟨rfl,?_⟩;have em:bs.getD j 0=bs[j]:=by simp[aet,ZH hj]
   show bs.getD j 0∈bs;rw[em];exact aau hj
  refine⟨.ref s.heap.objs.size,_,I.laid (a:=s.heap.objs.size) (o:=.ext (BX X.w s.heap.objs.size ((fq (oW H bs) bs.length).map (·.2)))) (t':=tk) hk (ZS _)
   ⟨⟨es,ep,t,T9,?_⟩,⟨o,g1⟩,λh1 h2 ⟨es,ep,t,r,z⟩ k=>⟨es,ep,t,r.at k,z⟩⟩,rfl,q _ _ (I.hok.fresh (ZS _)) ?_ λb hb=>?_⟩
  ·refine (g4.per.map (·.2)).trans (List.Perm.of_eq ?_);rw[ZY,ZY];rfl
  ·rw[←z6 H bs,ZY];exact Z2 λx hx=>(mem x hx).1.symm
  ·obtain⟨x,hx,rfl⟩:=ZO.mp hb;exact (mem x hx).2
def IA (w:acs):List V->Hp->VK->Prop:=λxs H Q=>∃(p:Z_) (bs:List Z_),xs=[.ref p]/\H p=some (.ext (BX w p bs))/\bs.length<64/\(∀b∈bs,∃ns:List Int,H b=some (.tup (ns.map V.int))/\ns≠[])/\
  ∀(l:Z_) (lr:List Z_),H l=none->lr.Perm bs->lr.Pairwise (λx y=>iE (dz H y) (dz H x)=false)->Q (.ref l) (cH H l (.lst (lr.map V.ref)))
theorem BY (hc:X.calm=true)(hu:X.A.units+64<abo):fB X (.builtin "sorted") (IA X.w):=by
 intro pins s σ H xs us Q I r h;obtain⟨p,bs,rfl,hs,hz,tu,q⟩:=h;obtain⟨u,rfl,rx⟩:=jE r;cases rx;obtain⟨⟨es,ep,t,T9,per⟩,_,_⟩:=I.hok p _ hs;refine qZ I hz hu tu (λQ E hq=>?_) q;have n:es.size=bs.length:=by have:=per.length_eq;simpa using this
 refine qY (A:=X.A.in1) Vs (I.ok.hd hc) T9 (by rw[n,abv];lia) λh1 tk bE k1 ia=>?_;have e:bE.toList=(vF X.w p ep es).toList.map (·.2):=by
  apply acZ;intro i;rw[aaj,ZT,aaj];by_cases hi:i<bE.size
  ·rw[getElem?_pos bE i hi];obtain⟨en,e1,e2⟩:=ia.2 i _ (getElem?_pos bE i hi);rw[e1,e2];rfl
  ·rw[getElem?_neg bE i hi,getElem?_neg _ i (by rw[zX,←ia.1];exact hi)];rfl
 obtain⟨ky,e3,e4⟩:=wL ((zW.map (·.2)).trans per);rw[e,e3];exact hq h1 tk ky e4 k1
def j9:List U->R U:=λus=>match us with
 | [.lst xs]=>match q_ xs with
  |some lA=>if (aP lA).length<64 then .ok (.lst ((eF (aP lA)).map ah)) else .stk
  |none=>.stk
 |_=>.stk
theorem z7:∀(l bE:List (List Int)) (x:List Int),x∈l.foldl fA bE->x∈bE\/x∈l
 | [],bE,x,h=>.inl h
 |y::l,bE,x,h=>by
  rcases z7 l _ x h with z|z
  ·unfold fA at z;split at z
   ·exact .inl z
   ·rcases aam.mp z with z|z
    ·exact .inl z
    ·exact .inr (by rw[Z1.mp z];exact ZG)
  ·exact .inr (ZK _ z)
theorem z8:mR K (λvs H Q=>Iz w K vs H λx H2=>IA w [x] H2 Q) .O j9:=λA H vs us z Q h mu e q=>by
 unfold j9 at e;split at e
 ·rename_i xs;split at e
  ·rename_i lA e1;split at e
   ·rename_i hl;cases e;obtain⟨v,rfl,p⟩:=h.one;unfold Pk at p;obtain⟨a,ys,rfl,h1,l1,r1⟩:=p;obtain⟨e2,ne⟩:=j7 e1;subst e2;obtain⟨bs,rfl,e4,e5⟩:=j8 r1;refine⟨a,bs,rfl,fu.of h1,λb hb=>(e5 b hb).1,by rw[e4];lia,λl ky hn k2 sub=>?_⟩;have sm:=cR hn (.ext (BX w l ky));have kb:∀b∈bs,dz (cH H l (.ext (BX w l ky))) b=dz H b:=λb hb=>by
     rw[xM (sm _ _ (e5 b hb).1)]
    have ln:ky.length=(aP lA).length:=by rw[←e4,←k2,ZF]
    refine⟨l,ky,rfl,bj,by lia,λb hb=>⟨_,sm _ _ (e5 b (sub b hb)).1,?_⟩,λl' lr Mp hp hw=>?_⟩
    ·have:dz H b∈aP (bs.map (dz H)):=by rw[←k2];exact aaB hb
     rcases z7 _ _ _ this with z|z
     ·cases z
     ·rw[e4] at z;exact ne _ z
    ·have Yu:(lr.map (dz H)).Pairwise λx y=>iE y x=false:=by
      refine abE.mpr (acm (λ{x y} hx hy z=>?_) hw);rw[kb x (sub x (hp.mem_iff.mp hx)),kb y (sub y (hp.mem_iff.mp hy))] at z;exact z
     have e7:lr.map (dz H)=eF (aP lA):=sL ((hp.map (dz H)).trans (by rw[k2,e4];exact (aM _).symm)) Yu (lT _);have FU:=sm.trans (cR Mp (.lst (lr.map V.ref)));have na:H l'=none:=by
      cases z:H l' with
      |none=>rfl
      |some o=>rw[sm _ _ z] at Mp;cases Mp
     refine q _ _ FU ⟨l',rfl,na,?_⟩;rw[←e7];refine di (λb hb=>?_) ?_ Mp ?_
     ·have m:=mu b hb;obtain⟨o,z⟩:=m.ex;rw[sm b o z,←z];exact m
     ·have k3:lr.map (dz H)=lr.map (dz (cH H l (.ext (BX w l ky)))):=Z2 λb hb=>(kb b (sub b (hp.mem_iff.mp hb))).symm;rw[k3];refine zZ λb hb=>?_;have yN:=sub b (hp.mem_iff.mp hb);rw[kb b yN];exact⟨sm _ _ (e5 b yN).1,(e5 b yN).2⟩
     ·have:ZL=16777216:=rfl;rw[ZF,ZF,hp.length_eq];lia
   ·cases e
  ·cases e
 ·cases e
theorem BZ (hc:X.calm=true)(hu:X.A.units+64<abo)(ha:DA X G [e] b1 true ga)(hm:X.mg "sorted"=none)(Wa:X.mg "set"=none)(hg:Gl X "sorted":=by rfl)(Ms:Gl X "set":=by rfl)
  (he:Z8 [e] X.env=(false,acD e X.env)::Z8 [] X.env:=by rfl) (sS:(abW lu (Z8 [] X.env)).any (·.1)=false:=by rfl)
  (T_:Z8 [.Call (.Name "set" p2) [e] [] lu] X.env=(false,acD (.Call (.Name "set" p2) [e] [] lu) X.env)::Z8 [] X.env:=by rfl) (Cz:(abW pos (Z8 [] X.env)).any (·.1)=false:=by rfl) :
  DE X G (.Call (.Name "sorted" p1) [.Call (.Name "set" p2) [e] [] lu] [] pos) b1 .O (iD j9 ga):=⟨(sZ (BY hc hu) hg hm wc (mm (gJ (wO hc hu) Ms Wa Hh ha.un (by decide) (by decide) he sS) pM T_) (by decide) (by decide) T_ Cz).to λ_ _ _ h=>sC (p:=true) (z8 (K:=X.K)) h⟩
end
end L2
namespace L2
open Hc.Dw Hc.Ts
section
variable {pos:Pos}
def NJ:R2:=λx y H Q=>∃(p:Z_) (xs:List V) (n:Int),x=.ref p/\y=.int n/\H p=some (.lst xs)/\0<=n/\n<=100000/\xs≠[]/\xs.length*n.toNat<=100000/\∀l,H l=none->Q (.ref l) (cH H l (.lst (abg n.toNat xs).flatten))
theorem Lo:lC X (acS .Mult) NJ:=by
 intro pins s σ H x y v u Q I rx ry h;obtain⟨p,xs,n,rfl,rfl,hp,h0,h1,A6,hs,q⟩:=h;obtain rfl:v=Value.ref p:=rx;obtain⟨tk,rfl⟩:∃t,u=.int n t:=ry;obtain⟨_,aD,n0,rv,hl,ho⟩:=I.lstM hp;have hl:xs.length=aD.length:=rv.length;have he:aD.toArray.isEmpty=false:=by cases aD with
  |nil=>cases xs with
   |nil=>exact absurd rfl A6
   |cons=>simp at hl
  |cons=>simp
 have sl:ZL=16777216:=rfl;refine wpAny_binaryOp_repeat_ref (T:="list") (U:="int") (by decide) ⟨_,ho,rfl⟩ (λs'=>typeIs_int s' n tk) noFill_list_mul PySem.F.fills_int_mul PySem.F.slot_int_rmul repeat_list PySem.F.slot_int_index.lookup
  (aem PySem.F.slot_int_rmul (typeIs_int s n tk) PySem.F.entry_int_rmul (PySem.F.args_int_rmul_2 _ _) (int___rmul___int_list n tk p aD.toArray n0)
   ⟨ho,rfl,⟨_,ho,rfl⟩,aem PySem.F.slot_list_mul ⟨_,ho,rfl⟩ PySem.F.entry_list_mul (PySem.F.args_list_mul_2 _ _)
    (AutoListH.list___mul___list_int_3 p aD.toArray n0 n tk ?c0 ?c1 ?c2) ⟨ho,?_⟩⟩)
 case c0=>unfold Builtin.List.listFitsIndex;simp;lia
 case c1=>rw[ZZ,←hl];lia
 case c2=>rw[ZZ,←hl,s_ (by rw[sl];lia)];exact ZM
 rw[he,hV ZM,listMul_foldl];have el:(#[]:Array ZR).toList=[]:=rfl;simp only[el,acJ];have z2:(abg n.toNat xs).flatten.length<=ZL:=by rw[Dj,sl];lia
 exact⟨.ref s.heap.objs.size,_,I.laid (a:=s.heap.objs.size) (o:=.lst (abg n.toNat xs).flatten) (t':=s.toks) (λ_ _ e=>ZP _ e) (ZS _) ⟨z2,_,0,zF rv n.toNat,by
  have:=ZW s.heap (o:={cls:=Value.type "list",data:=Data.seq (abg n.toNat aD.toArray.toList).flatten.toArray}) rfl;simpa using this⟩,rfl,q _ (I.hok.fresh (ZS _))⟩
def DX:U->U->R U:=λu w=>match u,w with
 | .lst us,.int n=>if 0<=n/\n<=100000/\us.length*n.toNat<=100000/\us.isEmpty=false then .ok (.lst (abg n.toNat us).flatten) else .stk
 |_,_=>.stk
theorem IB:ig K NJ .O DX:=λA H x y u w z Q hx hy mu e q=>by
 unfold DX at e;split at e
 ·rename_i us n;split at e
  ·rename_i c;cases e;unfold Pk at hx hy;obtain⟨a,xs,rfl,h1,l1,r1⟩:=hx;subst hy;have hl:=r1.length;refine⟨a,xs,n,rfl,rfl,h1,c.1,c.2.1,λz=>?_,by rw[←hl];exact c.2.2.1,λl hn=>?_⟩
   ·have:us=[]:=acy (by rw[hl,z];rfl);have c4:=c.2.2.2;rw[this] at c4;cases c4
   ·refine q _ _ (cR hn _) ⟨l,rfl,hn,di mu (Dk r1 _) hn ?_⟩;rw[Dj];have:ZL=16777216:=rfl;lia
  ·cases e
 ·cases e
end
section
variable {e:abH}{tl:TE}{eQ cpos pos p1:Pos}{b1:Bool}{m1:Md}{g1:Ev->R (U×Ev)}
def PD (ns:List Int):Bool:=decide (ns.length<=1000000)&&ns.all λn=>decide (0<=n/\n<=1000000000)
end
end L2
namespace L2
open Hc.Dw Hc.Ts
def Ft:ZR->Int×Tok
 | .int n t=>(n,t)
 |_=>(0,0)
theorem Fu (h:adQ aD ns):intItems (aD.map Ft).toArray=aD.toArray/\∀i,numAt (aD.map Ft).toArray i=ns.getD i 0:=by
 constructor
 ·unfold intItems;rw[List.map_toArray,ZY];congr 1
  induction h with
  |nil=>rfl
  |cons n t _ ih=>rw[ZI,ih];rfl
 ·induction h with
  |nil=>intro i;unfold numAt;simp
  |cons n t _ ih=>
   intro i;cases i with
   |zero=>unfold numAt;simp[Ft]
   |succ i=>
    have:=ih i;unfold numAt at this ⊢;simpa [aet] using this
def WT:List U->R U:=λus=>match us with
 | [.lst xs]=>match j6 xs with
  |some ns=>if PD ns=true then .ok (.int ns.sum) else .stk
  |none=>.stk
 |_=>.stk
def vG:Int->List Int->Int
 |m,[]=>m
 |m,n::ns=>vG (if m<n then n else m) ns
theorem z9 (ns:List Int)(n0:Int):∀j,j<=ns.length->(n0::ns).getD (argBest (λi j=>decide ((n0::ns).getD i 0>(n0::ns).getD j 0)) j) 0=vG n0 (ns.take j)
 |0,_=>by simp[argBest,vG]
 |j+1,h=>by
  have ih:=z9 ns n0 j (by lia);have hj:j<ns.length:=by lia
  have Yv:∀(l:List Int) (m x:Int),vG m (l++[x])=if vG m l<x then x else vG m l:=by
   intro l
   induction l with
   |nil=>intro m x;rfl
   |cons y l ih=>intro m x;exact ih _ x
  rw[aai hj,Yv,←ih];have g:(n0::ns).getD (j+1) 0=ns[j]:=by simp[aet,ZH hj]
  rw[argBest];by_cases c:(n0::ns).getD (argBest (λi j=>decide ((n0::ns).getD i 0>(n0::ns).getD j 0)) j) 0<ns[j]
  ·rw[hZ c,hZ (by rw[g];exact hG c),g]
  ·rw[hV c,hV (by rw[g,decide_eq_true_eq];exact c)]
def NK (K:ZN):List V->Hp->VK->Prop:=λxs H Q=>∃p n0 ns,xs=[.ref p]/\fu K H p ((n0::ns).map V.int)/\Q (.int (vG n0 ns)) H
theorem Fv (hc:X.calm=true):fB X (.builtin "max") (NK X.K):=by
 intro pins s σ H xs us Q I r h;obtain⟨p,n0,ns,rfl,hs,q⟩:=h;obtain⟨u,rfl,rx⟩:=jE r;cases rx;obtain⟨aD,rv,pl,_⟩:=I.list hs;have hI:=i9 rv;obtain⟨t1,t2⟩:=Fu hI;have sz:(aD.map Ft).toArray.size=ns.length+1:=by simp[hI.length]
 have fe:numAt (aD.map Ft).toArray=λi=>(n0::ns).getD i 0:=funext t2;refine max_intList (xs:=(aD.map Ft).toArray) (I.ok.hd hc) (by rw[t1];exact pl.isList) (by rw[sz];lia) λv h' tk hv k=>?_;obtain⟨t,rfl⟩:=intItems_at hv;rw[sz,Nat.add_sub_cancel,fe];dsimp only;rw[z9 ns n0 _ (ZS _),aa7];exact⟨.int _,H,I.kept (t':=tk) k,⟨t,rfl⟩,q⟩
def wQ:List U->R U:=λus=>match us with
 | [.lst xs]=>match j6 xs with
  |some (n::ns)=>.ok (.int (vG n ns))
  |_=>.stk
 |_=>.stk
theorem IC:mR K (NK K) .S wQ:=λA H vs us z Q h mu e q=>by
 unfold wQ at e;split at e
 ·rename_i xs;split at e
  ·rename_i n ns hb;cases e;obtain⟨v,rfl,p⟩:=h.one;unfold Pk at p;obtain⟨a,ys,rfl,h1,l1,r1⟩:=p;rw[oH hb] at r1;rw[r1.toI] at h1;exact⟨a,n,ns,rfl,fu.of h1,q _ H (aR.refl _) (show Rp K H A _ _ from dN)⟩
  ·cases e
 ·cases e
end L2
namespace L2
def PF (K:ZN)(f:Bool->Bool):R2:=λx y H Q=>∃p xs ds dx,y=.ref p/\(fu K H p xs\/iC K H p xs)/\eB K H dx x/\eX K H ds xs/\(∀d∈ds,eY d<=30)/\Q (.bl (f (ds.any λd=>jA d dx))) H
open Classical in
def lh (aD:List ZR)(ds:List D)(dx:D)(u:ZR):Bool:=decide (∃(i:Nat) (d:D),aD[i]? = some u/\ds[i]? = some d/\jA d dx=true)
open Classical in
theorem sM {ds:List D}{u:ZR}:lh aD ds dx u=true↔∃(i:Nat) (d:D),aD[i]? = some u/\ds[i]? = some d/\jA d dx=true:=by
 unfold lh;exact decide_eq_true_iff
theorem sN {ds:List D}(hl:aD.length=ds.length):aD.any (lh aD ds dx)=ds.any λd=>jA d dx:=by
 rw[aaw,ab7,ab7];constructor
 ·rintro⟨u,_,h⟩;obtain⟨i,d,_,h2,h3⟩:=sM.mp h;exact⟨d,aa1 h2,h3⟩
 ·rintro⟨d,hd,h⟩;obtain⟨i,hi,e⟩:=ac2.mp hd;have Oc:i<aD.length:=by lia
  exact⟨aD[i],aau Oc,sM.mpr ⟨i,d,ZH Oc,by rw[ZH hi,e],h⟩⟩
theorem oX (I:aL X pins σ H s){A:aaC}(hA:A.units+30<abo){x:V}{v:ZR}(rx:aZ x v)(hx:eB X.K H dx x){ds:List D}(rv:bg xs aD)(hs:eX X.K H ds xs)(hd:∀d∈ds,eY d<=30) :
  ∀u∈aD,acX A s u v (lh aD ds dx u):=λu hu=>by
 have l1:=rv.length;have l2:=hs.length;have at_:∀(i:Nat) (d:D),aD[i]? = some u->ds[i]? = some d->acX A s u v (jA d dx):=λi d h1 h2=>by
  have hi:i<aD.length:=(ZQ.mp h1).1;have h3:xs[i]? = some (xs[i]'(by lia)):=ZH _;obtain⟨u',g1,g2⟩:=rv.get h3;rw[h1] at g1;cases g1;exact Gx I 30 d dx _ x u v A (hd d (aa1 h2)) hA (hs.get h2 h3) hx g2 rx
 by_cases c:∃(i:Nat) (d:D),aD[i]? = some u/\ds[i]? = some d/\jA d dx=true
 ·obtain⟨i,d,h1,h2,h3⟩:=c;have e:lh aD ds dx u=true:=sM.mpr ⟨i,d,h1,h2,h3⟩;rw[e,←h3];exact at_ i d h1 h2
 ·have e:lh aD ds dx u=false:=acW.mpr λz=>c (sM.mp z);obtain⟨i,hi,eu⟩:=ac2.mp hu;have h1:aD[i]? = some u:=by rw[ZH hi,eu]
  have h2:ds[i]? = some (ds[i]'(by lia)):=ZH _;have e2:jA (ds[i]'(by lia)) dx=false:=by
   cases z:jA (ds[i]'(by lia)) dx with
   |false=>rfl
   |true=>exact absurd ⟨i,_,h1,h2,z⟩ c
  rw[e,←e2];exact at_ i _ h1 h2
theorem ID (hu:X.A.units+64<abo):lC X (abK .In) (PF X.K id):=by
 intro pins s σ H x y v u Q I rx ry h;obtain⟨p,xs,ds,dx,rfl,hq,hx,hs,hd,q⟩:=h;cases ry;rcases hq with hq|hq
 ·obtain⟨aD,r,pl,hz⟩:=I.list hq;refine SeqAt.in_listAt (lh aD ds dx) pl.isList (λw hw=>oX I (by show X.A.units+1+30<abo;lia) rx hx r hs hd w (by simpa using hw)) ⟨.bl _,H,I,rfl,?_⟩;rw[show aD.toArray.any (lh aD ds dx)=aD.any (lh aD ds dx) by simp,sN (by rw[←r.length,←hs.length])];exact q
 ·obtain⟨aD,r,pl,hz⟩:=I.tuple hq;refine SeqAt.in_tupleAt (lh aD ds dx) pl (λw hw=>oX I (by show X.A.units+1+30<abo;lia) rx hx r hs hd w (by simpa using hw)) ⟨.bl _,H,I,rfl,?_⟩;rw[show aD.toArray.any (lh aD ds dx)=aD.any (lh aD ds dx) by simp,sN (by rw[←r.length,←hs.length])];exact q
theorem wR (hu:X.A.units+64<abo):lC X (abK .NotIn) (PF X.K not):=by
 intro pins s σ H x y v u Q I rx ry h;obtain⟨p,xs,ds,dx,rfl,hq,hx,hs,hd,q⟩:=h;cases ry;rcases hq with hq|hq
 ·obtain⟨aD,r,pl,hz⟩:=I.list hq;refine SeqAt.notIn_listAt (lh aD ds dx) pl.isList (λw hw=>oX I (by show X.A.units+1+30<abo;lia) rx hx r hs hd w (by simpa using hw)) ⟨.bl _,H,I,rfl,?_⟩;rw[show aD.toArray.any (lh aD ds dx)=aD.any (lh aD ds dx) by simp,sN (by rw[←r.length,←hs.length])];exact q
 ·obtain⟨aD,r,pl,hz⟩:=I.tuple hq;refine SeqAt.notIn_tupleAt (lh aD ds dx) pl (λw hw=>oX I (by show X.A.units+1+30<abo;lia) rx hx r hs hd w (by simpa using hw)) ⟨.bl _,H,I,rfl,?_⟩;rw[show aD.toArray.any (lh aD ds dx)=aD.any (lh aD ds dx) by simp,sN (by rw[←r.length,←hs.length])];exact q
def B0:U->Option (List U)
 | .lst us=>some us
 | .tup us=>some us
 |_=>none
def AZ (f:Bool->Bool):U->U->R U:=λu w=>match kH u,(B0 w).bind ja with
 |some dx,some ds=>if (ds.all λd=>decide (eY d<=30))=true then .ok (.bl (f (ds.any λd=>jA d dx))) else .stk
 |_,_=>.stk
theorem xO {f:Bool->Bool}:ig K (PF K f) .S (AZ f):=λA H x y u w z Q hx hy mu e q=>by
 unfold AZ at e;split at e
 ·rename_i dx ds h1 h2;split at e
  ·rename_i hd;cases e;cases w with
   |lst us=>
    unfold Pk at hy;obtain⟨a,xs,rfl,h3,l1,r1⟩:=hy;exact⟨a,xs,ds,dx,rfl,.inl (fu.of h3),xv hx h1,mz r1 h2,λd m=>of_decide_eq_true (aag.mp hd d m),q _ H (aR.refl _) (show Rp K H A _ _ from j2)⟩
   |tup us=>
    unfold Pk at hy;obtain⟨a,xs,rfl,h3,l1,r1⟩:=hy;exact⟨a,xs,ds,dx,rfl,.inr (iC.of h3),xv hx h1,mz r1 h2,λd m=>of_decide_eq_true (aag.mp hd d m),q _ H (aR.refl _) (show Rp K H A _ _ from j2)⟩
   |_=>cases h2
  ·cases e
 ·cases e
end L2
namespace L2
open Hc.Dw Hc.Ts
def PH:U->U->R Bool
 | .int a,.int b=>.ok (a==b)
 | .bl a,.bl b=>.ok (a==b)
 | .str a,.str b=>.ok (a==b)
 |_,_=>.stk
def jC (f:Bool->Bool):U->U->R U:=λu w=>(PH u w).bind λb=>.ok (.bl (f b))
theorem iT:ig K Ws .S (jC id):=λA H x y u w z Q hx hy mu e q=>by
 unfold jC at e;obtain⟨b,e1,e2⟩:=R.bind_ok e;unfold PH at e1;split at e1
 ·cases e1;cases e2;rw[hx.int,hy.int];refine⟨rfl,?_⟩;rw[sr];exact q _ H (aR.refl _) (show Rp K H A _ _ from j2)
 ·cases e1;cases e2;rw[hx.bl,hy.bl];refine⟨rfl,?_⟩;rw[xk];exact q _ H (aR.refl _) (show Rp K H A _ _ from j2)
 ·cases e1;cases e2;rw[hx.str,hy.str];refine⟨rfl,?_⟩;rw[su];exact q _ H (aR.refl _) (show Rp K H A _ _ from j2)
 ·cases e1
theorem xP:ig K Wt .S (jC not):=λA H x y u w z Q hx hy mu e q=>by
 unfold jC at e;obtain⟨b,e1,e2⟩:=R.bind_ok e;unfold PH at e1;split at e1
 ·cases e1;cases e2;rw[hx.int,hy.int];refine⟨rfl,?_⟩;rw[sr];exact q _ H (aR.refl _) (show Rp K H A _ _ from j2)
 ·cases e1;cases e2;rw[hx.bl,hy.bl];refine⟨rfl,?_⟩;rw[xk];exact q _ H (aR.refl _) (show Rp K H A _ _ from j2)
 ·cases e1;cases e2;rw[hx.str,hy.str];refine⟨rfl,?_⟩;rw[su];exact q _ H (aR.refl _) (show Rp K H A _ _ from j2)
 ·cases e1
end L2
namespace L2
def je (P:U->V->List Z_->Prop):List U->List V->List Z_->Prop
 | [],vs,L=>vs=[]/\L=[]
 |u::us,vs,L=>∃v r L1 L2,vs=v::r/\L=L1++L2/\P u v L1/\je P us r L2
def Dp (K:ZN)(H:Hp)(A:Z_->Prop):Nat->U->V->List Z_->Prop
 |0,u,v,L=>∃a us xs,v=.ref a/\u=.lst us/\L=[a]/\H a=some (.lst xs)/\us.length<=ZL/\aH K H A us xs
 |1,u,v,L=>L=[]/\Rp K H A u v
 |n+2,u,v,L=>∃a us es M,v=.ref a/\u=.dct (es.map λp=>.tup p.1) us/\L=a::M/\fx H a es/\(es=[]->H a=some (.dK []))/\us.length<=ZL/\je (Dp K H A n) us (es.map (·.2.2)) M
section
variable {A':Z_->Prop}
theorem je.imp {P P':U->V->List Z_->Prop}:∀{us:List U} {vs:List V} {L:List Z_},(∀u v L',(∀b∈L',b∈L)->P u v L'->P' u v L')->je P us vs L->je P' us vs L
 | [],_,_,_,h=>h
 |u::us,vs,L,f,h=>by
  obtain⟨v,r,L1,L2,e1,e2,p,q⟩:=h;subst e2;exact⟨v,r,L1,L2,e1,rfl,f u v L1 (λb hb=>aaE _ hb) p,je.imp (λu v L' s=>f u v L' λb hb=>Z9 _ (s b hb)) q⟩
theorem je.length {P:U->V->List Z_->Prop}:∀{us:List U} {vs:List V} {L:List Z_},je P us vs L->us.length=vs.length
 | [],_,_,⟨e,_⟩=>by subst e;rfl
 |u::us,_,_,⟨v,r,_,_,e,_,_,q⟩=>by subst e;rw[Z0,Z0,q.length]
theorem je.mem {P:U->V->List Z_->Prop}:∀{us:List U} {vs:List V} {L:List Z_} {b:Z_},je P us vs L->b∈L->∃u v L',P u v L'/\b∈L'
 | [],_,_,b,⟨_,e⟩,h=>by subst e;cases h
 |u::us,_,_,b,⟨v,r,L1,L2,_,e,p,q⟩,h=>by
  subst e;rcases aam.mp h with h|h
  ·exact⟨u,v,L1,p,h⟩
  ·exact q.mem h
theorem fx.mu (g:fx H a es):Mu (H a):=by
 rcases g.ob with⟨ep,q⟩|⟨_,q⟩<;>(rw[q];trivial)
theorem Dp.mu:∀{n:Nat} {u:U} {v:V} {L:List Z_} {b:Z_},Dp K H A n u v L->b∈L->Mu (H b)
 |0,u,v,L,b,h,hb=>by
  obtain⟨a,us,xs,_,_,e,q,_⟩:=h;subst e;rw[Z1] at hb;subst hb;rw[q];trivial
 |1,u,v,L,b,h,hb=>by
  rw[h.1] at hb;cases hb
 |n+2,u,v,L,b,h,hb=>by
  obtain⟨a,us,es,M,_,_,e,g,_,_,al⟩:=h;subst e;rcases ZX.mp hb with rfl|hb
  ·exact g.mu
  ·obtain⟨u',v',L',p,hb⟩:=al.mem hb;exact Dp.mu p hb
theorem fx.re (g:fx H a es)(ka:H' a=H a)(t:∀b ys,H b=some (.tup ys)->H' b=some (.tup ys)):fx H' a es:=⟨by rw[ka];exact g.ob,g.nd,λe he=>(g.key e he).to t⟩
structure A4 (A A':Z_->Prop)(H H':Hp):Prop where
 mu:∀b,A b->Mu (H b)
 ex:fZ A H H'
 nw:∀b,A' b->A b\/H b=none
theorem A4.tup (g:A4 A A' H H'):∀b ys,H b=some (.tup ys)->H' b=some (.tup ys):=λb ys q=>g.ex b _ (λz=>by have:=g.mu b z;rw[q] at this;exact this) q
theorem Dp.re (g:A4 A A' H H'):∀{n:Nat} {u:U} {v:V} {L:List Z_},(∀b∈L,H' b=H b)->Dp K H A n u v L->Dp K H' A' n u v L
 |0,u,v,L,k,h=>by
  obtain⟨a,us,xs,e1,e2,e,q,l,r⟩:=h;subst e;exact⟨a,us,xs,e1,e2,rfl,by rw[k a ZG];exact q,l,r.re g.mu g.ex g.nw⟩
 |1,u,v,L,k,h=>⟨h.1,h.2.re g.mu g.ex g.nw⟩
 |n+2,u,v,L,k,h=>by
  obtain⟨a,us,es,M,e1,e2,e,d,z,l,al⟩:=h;subst e;have ka:=k a ZG;exact⟨a,us,es,M,e1,e2,rfl,d.re ka g.tup,(by rw[ka];exact z),l,al.imp λu v L' s p=>Dp.re g (λb hb=>k b (ZK _ (s b hb))) p⟩
theorem je.rps {P:U->V->List Z_->Prop}:∀{us:List U} {vs:List V} {L:List Z_},(∀u v L',(∀b∈L',b∈L)->P u v L'->Rp K H A' u v)->je P us vs L->aH K H A' us vs
 | [],_,_,_,⟨e,_⟩=>by subst e;exact aH.nil
 |u::us,_,_,f,⟨v,r,L1,L2,e1,e2,p,q⟩=>by
  subst e1 e2;exact aH.cons (f u v L1 (λb hb=>aaE _ hb) p) (q.rps λu v L' s=>f u v L' λb hb=>Z9 _ (s b hb))
theorem fx.at (d:fx H a es)(z:es=[]->H a=some (.dK [])):xo H a (es.map λp=>.tup p.1) (es.map (·.2.2)):=by
 by_cases hz:es=[]
 ·subst hz;exact .inl ⟨[],z rfl,rfl,rfl⟩
 ·exact .inr ⟨es,hz,d,rfl,rfl⟩
theorem Dp.rp:∀{n:Nat} {u:U} {v:V} {L:List Z_},(∀b,A' b->A b/\b∉L)->Dp K H A n u v L->Rp K H A' u v
 |0,u,v,L,k,h=>by
  obtain⟨a,us,xs,e1,e2,e,q,l,r⟩:=h;subst e e2;unfold Rp;exact⟨a,xs,e1,λz=>(k a z).2 ZG,q,l,r.mono λb z=>(k b z).1⟩
 |1,u,v,L,k,h=>h.2.mono λb z=>(k b z).1
 |n+2,u,v,L,k,h=>by
  obtain⟨a,us,es,M,e1,e2,e,d,z,l,al⟩:=h;subst e e2;unfold Rp;exact⟨a,es.map (·.2.2),e1,λy=>(k a y).2 ZG,d.at z,l,al.rps λu v L' s p=>Dp.rp (λb y=>⟨(k b y).1,λw=>(k b y).2 (ZK _ (s b w))⟩) p⟩
structure At (K:ZN)(H:Hp)(A:Z_->Prop)(n:Nat)(v:V)(L:List Z_)(m:Nat)(u':U)(v':V)(L':List Z_)(F:U->U):Prop where
 sub:∀b∈L',b∈L
 nod:L.Nodup
 nod':L'.Nodup
 dp:Dp K H A m u' v' L'
 all:Dp K H A n (F u') v L
 put:∀H' A' w L3,A4 A A' H H'->(∀b∈L,b∉L'->H' b=H b)->Dp K H' A' m w v' L3->L3.Nodup->(∀b∈L',b∈L3)->(∀b∈L3,b∈L'\/H b=none)->∃L4,Dp K H' A' n (F w) v L4/\L4.Nodup/\(∀b∈L,b∈L4)/\(∀b∈L3,b∈L4)/\(∀b∈L4,b∈L3\/b∈L)
theorem At.root (h:Dp K H A n u v L)(nd:L.Nodup):At K H A n v L n u v L id:=⟨λb h=>h,nd,nd,h,h,λH' A' w L3 g k d n3 s1 s2=>⟨L3,d,n3,s1,λb hb=>hb,λb hb=>.inl hb⟩⟩
theorem Dp.ne (h:Dp K H A n u v L)(hb:b∈L):H b≠none:=λe=>by
 have:=h.mu hb;rw[e] at this;exact this
theorem A4.trans {A2:Z_->Prop}(g:A4 A A' H H')(un:∀b,H' b=none->H b=none)(g':A4 A' A2 H' H2):A4 A A2 H H2:=
 ⟨g.mu,λb o nb e=>g'.ex b o (λz=>by rcases g.nw b z with y|y;exact nb y;rw[e] at y;cases y) (g.ex b o nb e),λb z=>by
  rcases g'.nw b z with y|y
  ·exact g.nw b y
  ·exact .inr (un b y)⟩
theorem At.set {L3:List Z_}{w:U}(h:At K H A n v L m u' v' L' F)(g:A4 A A' H H')(k:∀b∈L,b∉L'->H' b=H b)(un:∀b,H' b=none->H b=none)(d:Dp K H' A' m w v' L3)(n3:L3.Nodup)(s1:∀b∈L',b∈L3)(s2:∀b∈L3,b∈L'\/H b=none):∃L4,At K H' A' n v L4 m w v' L3 F/\(∀b∈L,b∈L4)/\(∀b∈L4,b∈L3\/b∈L):=by
 obtain⟨L4,d4,n4,z1,z3,z2⟩:=h.put H' A' w L3 g k d n3 s1 s2;refine⟨L4,⟨z3,n4,n3,d,d4,λH2 A2 w2 L5 g2 k2 d5 n5 t1 t2=>?_⟩,z1,z2⟩;obtain⟨L6,d6,n6,y1,y3,y2⟩:=h.put H2 A2 w2 L5 (g.trans un g2) (λb hb nb=>by
   rw[k2 b (z1 b hb) (λy=>by
    rcases s2 b y with y|y
    ·exact nb y
    ·exact h.all.ne hb y),k b hb nb]) d5 n5 (λb hb=>t1 b (s1 b hb)) (λb hb=>by
   rcases t2 b hb with y|y
   ·exact s2 b y
   ·exact .inr (un b y))
 refine⟨L6,d6,n6,λb hb=>?_,y3,λb hb=>(y2 b hb).imp id (z1 b)⟩;rcases z2 b hb with y|y
 ·exact y3 b (t1 b y)
 ·exact y1 b y
theorem At.keep (h:At K H A n v L m u' v' L' F)(g:A4 A A' H H')(k:∀b∈L,H' b=H b)(un:∀b,H' b=none->H b=none):At K H' A' n v L m u' v' L' F:=
 ⟨h.sub,h.nod,h.nod',h.dp.re g λb hb=>k b (h.sub b hb),h.all.re g k,λH2 A2 w2 L5 g2 k2 d5 n5 t1 t2=>h.put H2 A2 w2 L5 (g.trans un g2) (λb hb nb=>by rw[k2 b hb nb,k b hb]) d5 n5 t1 λb hb=>(t2 b hb).imp id (un b)⟩
theorem sO {k w:U}:∀{ks us:List U},k∉ks->ks.length=us.length->abe (λk' u=>if k'=k then w else u) ks us=us
 | [],[],_,_=>rfl
 |x::ks,y::us,h,l=>by
  rw[aaH,hV (λe=>h (by rw[e];exact ZG)),sO (λz=>h (ZK _ z)) (by simpa using l)]
abbrev jf (es:List (List U×Z_×V)):List U:=es.map λp=>.tup p.1
theorem oY {k:List U}:U.tup k∈jf es↔k∈es.map (·.1):=by
 rw[ZO,ZO];constructor
 ·rintro⟨p,hp,e⟩;exact⟨p,hp,kF.mp e⟩
 ·rintro⟨p,hp,e⟩;exact⟨p,hp,by rw[e]⟩
theorem je.find {m:Nat}{k:List U}{x:V}:∀{es:List (List U×Z_×V)} {us:List U} {M:List Z_},je (Dp K H A m) us (es.map (·.2.2)) M->(es.map (·.1)).Nodup->M.Nodup->gN es k=some x->
  ∃u' M',cX (jf es) us (.tup k)=some u'/\k∈es.map (·.1)/\abe (λk' u=>if k'=.tup k then u' else u) (jf es) us=us/\(∀b∈M',b∈M)/\M'.Nodup/\Dp K H A m u' x M' /\
   ∀H' A' w M3,A4 A A' H H'->(∀b∈M,b∉M'->H' b=H b)->Dp K H' A' m w x M3->M3.Nodup->(∀b∈M',b∈M3)->(∀b∈M3,b∈M'\/H b=none)->
    ∃M4,je (Dp K H' A' m) (abe (λk' u=>if k'=.tup k then w else u) (jf es) us) (es.map (·.2.2)) M4/\M4.Nodup/\(∀b∈M,b∈M4)/\(∀b∈M3,b∈M4)/\(∀b∈M4,b∈M3\/b∈M)
 | [],_,_,_,_,_,e=>by cases e
 |e::es,us,M,al,nd,nM,hv=>by
  cases us with
  |nil=>obtain⟨z,_⟩:=al;cases z
  |cons u us=>
   obtain⟨v,r,L1,L2,e1,e2,p,q⟩:=al;rw[ZI] at e1;cases e1;subst e2;rw[ZI] at nd;obtain⟨UP,nd2⟩:=aax.mp nd;obtain⟨n1,n2,n3⟩:=aa_.mp nM;have ql:(jf es).length=us.length:=by rw[q.length,ZF,ZF]
   unfold gN at hv;rw[aaX] at hv;unfold jf;rw[ZI];unfold cX;by_cases c:e.1=k
   ·rw[hG c] at hv;cases hv;have nk:U.tup k∉jf es:=λz=>UP (by rw[c];exact oY.mp z);refine⟨u,L1,by rw[hZ (by rw[c])],by rw[←c];exact ZG,by rw[aaH,ite_self];exact congrArg _ (sO nk ql),λb hb=>aaE _ hb,n1,p,λH' A' w M3 g kk d5 n5 t1 t2=>?_⟩;rw[aaH,hZ (by rw[c]),sO nk ql];have dj:∀b∈L2,b∉L1:=λb hb z=>n3 b z b hb rfl;refine⟨M3++L2,⟨_,_,M3,L2,rfl,rfl,d5,q.imp λu v L' s y=>y.re g λb hb=>kk b (Z9 _ (s b hb)) (dj b (s b hb))⟩,?_,λb hb=>?_,λb hb=>aaE _ hb,λb hb=>?_⟩
    ·refine aa_.mpr ⟨n5,n2,λa ha b hb eq=>?_⟩;subst eq;rcases t2 a ha with y|y
     ·exact dj a hb y
     ·obtain⟨_,_,_,z1,z2⟩:=q.mem hb;exact z1.ne z2 y
    ·rcases aam.mp hb with y|y
     ·exact aaE _ (t1 b y)
     ·exact Z9 _ y
    ·exact (aam.mp hb).imp id (λy=>Z9 _ y)
   ·rw[hJ c] at hv;obtain⟨u',M',y1,y2,y3,y4,y5,y6,y7⟩:=je.find q nd2 n2 hv;have c':¬U.tup e.1=U.tup k:=λz=>c (kF.mp z);have dj:∀b∈L1,b∉L2:=λb hb z=>n3 b hb b z rfl;refine⟨u',M',by rw[hV c'];exact y1,ZK _ y2,by rw[aaH,hV c',y3],λb hb=>Z9 _ (y4 b hb),y5,y6,λH' A' w M3 g kk d5 n5 t1 t2=>?_⟩;obtain⟨M4,z1,z2,z3,z4,z5⟩:=y7 H' A' w M3 g (λb hb=>kk b (Z9 _ hb)) d5 n5 t1 t2;rw[aaH,hV c'];refine⟨L1++M4,⟨_,_,L1,M4,rfl,rfl,p.re g λb hb=>kk b (aaE _ hb) λz=>dj b hb (y4 b z),z1⟩,?_,λb hb=>?_,λb hb=>Z9 _ (z4 b hb),λb hb=>?_⟩
    ·refine aa_.mpr ⟨n1,z2,λa ha b hb eq=>?_⟩;subst eq;rcases z5 a hb with y|y
     ·rcases t2 a y with x|x
      ·exact dj a ha (y4 a x)
      ·exact p.ne ha x
     ·exact dj a ha y
    ·rcases aam.mp hb with y|y
     ·exact aaE _ y
     ·exact Z9 _ (z3 b y)
    ·rcases aam.mp hb with y|y
     ·exact .inr (aaE _ y)
     ·exact (z5 b y).imp id λz=>Z9 _ z
theorem At.child {M:List Z_}{k:List U}{x:V}(h:At K H A n v L (m+2) (.dct (jf es) us) (.ref a) (a::M) F)(d:fx H a es)(z:es=[]->H a=some (.dK []))(l:us.length<=ZL)(al:je (Dp K H A m) us (es.map (·.2.2)) M)(hv:gN es k=some x) :
  ∃u' L2,cX (jf es) us (.tup k)=some u'/\F (.dct (dv (jf es) (.tup k)) (cx (jf es) us (.tup k) u'))=F (.dct (jf es) us)/\At K H A n v L m u' x L2 (λw=>F (.dct (dv (jf es) (.tup k)) (cx (jf es) us (.tup k) w))):=by
 obtain⟨na,nM⟩:=aax.mp h.nod';obtain⟨u',M',y1,y2,y3,y4,y5,y6,y7⟩:=al.find d.nd nM hv;have hk:U.tup k∈jf es:=oY.mpr y2;have e1:dv (jf es) (.tup k)=jf es:=hZ hk;have e2:∀w,cx (jf es) us (.tup k) w=abe (λk' u=>if k'=.tup k then w else u) (jf es) us:=λw=>hZ hk;have e3:F (.dct (dv (jf es) (.tup k)) (cx (jf es) us (.tup k) u'))=F (.dct (jf es) us):=by rw[e1,e2,y3]
 refine⟨u',M',y1,e3,⟨λb hb=>h.sub b (ZK _ (y4 b hb)),h.nod,y5,y6,by rw[e3];exact h.all,λH' A' w L3 g kk d5 n5 t1 t2=>?_⟩⟩;have ka:H' a=H a:=kk a (h.sub a ZG) λq=>na (y4 a q);obtain⟨M4,z1,z2,z3,z4,z5⟩:=y7 H' A' w L3 g (λb hb nb=>kk b (h.sub b (ZK _ hb)) nb) d5 n5 t1 t2;have n4:(a::M4).Nodup:=aax.mpr ⟨λq=>by
  rcases z5 a q with y|y
  ·rcases t2 a y with x|x
   ·exact na (y4 a x)
   ·exact h.dp.ne ZG x
  ·exact na y,z2⟩
 obtain⟨L4,w1,w2,w3,w4,w5⟩:=h.put H' A' (.dct (jf es) (cx (jf es) us (.tup k) w)) (a::M4) g (λb hb nb=>kk b hb λq=>nb (ZK _ (y4 b q)))
  ⟨a,_,es,M4,rfl,rfl,rfl,d.re ka g.tup,(by rw[ka];exact z),by rw[e2,ab1];lia,by rw[e2];exact z1⟩ n4 (λb hb=>by
   rcases ZX.mp hb with rfl|hb
   ·exact ZG
   ·exact ZK _ (z3 b hb)) (λb hb=>by
   rcases ZX.mp hb with rfl|hb
   ·exact .inl ZG
   ·rcases z5 b hb with y|y
    ·exact (t2 b y).imp (λq=>ZK _ (y4 b q)) id
    ·exact .inl (ZK _ y))
 refine⟨L4,by rw[e1];exact w1,w2,w3,λb hb=>w4 b (ZK _ (z4 b hb)),λb hb=>?_⟩;rcases w5 b hb with y|y
 ·rcases ZX.mp y with rfl|y
  ·exact .inr (h.sub b ZG)
  ·rcases z5 b y with x|x
   ·exact .inl x
   ·exact .inr (h.sub b (ZK _ x))
 ·exact .inr y
theorem je.snoc {P:U->V->List Z_->Prop}(p:P u v L'):∀{us:List U} {vs:List V} {L:List Z_},je P us vs L->je P (us++[u]) (vs++[v]) (L++L')
 | [],_,_,⟨e1,e2⟩=>by subst e1 e2;exact⟨v,[],L',[],rfl,(aaW _).symm,p,rfl,rfl⟩
 |w::us,_,_,⟨x,r,L1,L2,e1,e2,q,al⟩=>by subst e1 e2;exact⟨x,r++[v],L1,L2++L',rfl,abD _ _ _,q,al.snoc p⟩
theorem uC {k:List U}(h:gN es k=none):k∉es.map (·.1):=λz=>by
 obtain⟨e,he,rfl⟩:=ZO.mp z;unfold gN at h;rw[Option.map_eq_none_iff,List.find?_eq_none] at h;exact h e he (hG rfl)
theorem Fw {k:List U}(h:gN es k=none):gN (es++[(k,b,v)]) k=some v:=by
 unfold gN at h ⊢;rw[Option.map_eq_none_iff] at h;rw[List.find?_append,h];show Option.map _ (List.find? _ _)=_;rw[aaX,hG rfl];rfl
theorem Fx {k w:U}(h:k∉ks)(l:ks.length=us.length):abe (λk' u=>if k'=k then w else u) (ks++[k]) (us++[u])=us++[w]:=by
 rw[List.zipWith_append l,sO h l];show _++[if k=k then w else u]=_;rw[hZ rfl]
theorem oZ {k:U}:∀{ks us:List U},k∉ks->cX ks us k=none
 | [],us,_=>by unfold cX;rfl
 |x::ks,[],_=>by unfold cX;rfl
 |x::ks,y::us,h=>by unfold cX;rw[hV (λe=>h (by rw[e];exact ZG))];exact oZ λz=>h (ZK _ z)
theorem wV {k u:U}:∀{ks us:List U},k∉ks->ks.length=us.length->cX (ks++[k]) (us++[u]) k=some u
 | [],[],_,_=>by show cX [k] [u] k=_;unfold cX;rw[hZ rfl]
 |x::ks,y::us,h,l=>by show cX (x::(ks++[k])) (y::(us++[u])) k=_;unfold cX;rw[hV (λe=>h (by rw[e];exact ZG))];exact wV (λz=>h (ZK _ z)) (by simpa using l)
theorem At.new {H0:Hp}{c:Z_}{M:List Z_}{k:List U}{u0:U}(h:At K H0 A n v L (m+2) (.dct (jf es) us) (.ref a) (a::M) F)(d:fx H0 a es)(l:us.length<ZL)(al:je (Dp K H0 A m) us (es.map (·.2.2)) M)(mu:∀b,A b->Mu (H0 b))(aa:∀b∈L,A b)(s0:aR H0 H)(nc:H0 c=none)(kb:vo H k b)(hv:gN es k=none)(h':H'=cH H a (DN a ep (jP es k b (.ref c))))(dc:∀H',H' c=H c->(∀b,Mu (H b)\/H' b=H b)->Dp K H' (λb=>A b\/b=c) m u0 (.ref c) [c]) :
  ∃L4 L2,cX (jf es) us (.tup k)=none/\At K H' (λb=>A b\/b=c) n v L4 m u0 (.ref c) L2 (λw=>F (.dct (dv (jf es) (.tup k)) (cx (jf es) us (.tup k) w)))/\(∀b∈L,b∈L4)/\(∀b∈L4,b∈L\/b=c)/\A4 A (λb=>A b\/b=c) H0 H':=by
 have nk:=uC hv;have Ua:U.tup k∉jf es:=λz=>nk (oY.mp z);have ll:(jf es).length=us.length:=by rw[al.length,ZF,ZF]
 have pe:jP es k b (.ref c)=es++[(k,b,.ref c)]:=by unfold jP;rw[hv];rfl
 rw[pe] at h';have aA:A a:=aa a (h.sub a ZG);have ha:H' a=some (DN a ep (es++[(k,b,.ref c)])):=by rw[h'];unfold cH;rw[hZ rfl]
 have hb:∀b,b≠a->H' b=H b:=λb nb=>by rw[h'];unfold cH;rw[hV nb]
 have ca:c≠a:=λe=>by
  have:=mu a aA;rw[←e,nc] at this;exact this
 have cM:c∉M:=λz=>h.all.ne (h.sub c (ZK _ z)) nc;obtain⟨na,nM⟩:=aax.mp h.nod';have g:A4 A (λb=>A b\/b=c) H0 H':=⟨mu,λb o nb e=>by rw[hb b (λz=>nb (z▸aA))];exact s0 b o e,λb z=>z.imp id λe=>by rw[e];exact nc⟩;have un:∀b,H' b=none->H0 b=none:=λx e=>by
  by_cases xa:x=a
  ·rw[xa,ha] at e;cases e
  ·rw[hb x xa] at e;cases q:H0 x with
   |none=>rfl
   |some o=>rw[s0 x o q] at e;cases e
 have kL:∀b∈L,b≠a->H' b=H0 b:=λx hx xa=>by
  rw[hb x xa];cases q:H0 x with
  |none=>exact absurd q (h.all.ne hx)
  |some o=>exact s0 x o q
 have d2:fx H' a (es++[(k,b,.ref c)]):=⟨.inl ⟨ep,ha⟩,by
  rw[aad,aa_];refine⟨d.nd,aaS _ _,λx hx y hy=>?_⟩;rw[ZI,aaI,Z1] at hy;subst hy;exact λe=>nk (e▸hx),λe he=>by
  rcases aam.mp he with he|he
  ·exact (d.key e he).to g.tup
  ·rw[Z1] at he;subst he;refine kb.to λx ys q=>?_;rw[hb x (λz=>?_)]
   ·exact q
   ·have:=mu a aA;obtain⟨o,e⟩:=this.ex;rw[e] at this;rw[z,s0 a o e] at q;cases q;exact this⟩
 have em:(es++[(k,b,V.ref c)]).map (·.2.2)=es.map (·.2.2)++[.ref c]:=by rw[aad];rfl
 have ek:jf (es++[(k,b,V.ref c)])=jf es++[.tup k]:=by unfold jf;rw[aad];rfl
 have Xu:je (Dp K H' (λb=>A b\/b=c) m) (us++[u0]) ((es++[(k,b,V.ref c)]).map (·.2.2)) (M++[c]):=by
  rw[em];refine je.snoc (dc H' (hb c ca) λx=>?_) (al.imp λu v L' s p=>p.re g λx hx=>kL x (h.sub x (ZK _ (s x hx))) λe=>na (e▸s x hx));by_cases xa:x=a
  ·refine .inl ?_;have:=mu a aA;obtain⟨o,e⟩:=this.ex;rw[xa,s0 a o e,←e];exact this
  ·exact .inr (hb x xa)
 obtain⟨L4,h4,z1,z2⟩:=h.set (w:=.dct (jf (es++[(k,b,V.ref c)])) (us++[u0])) (L3:=a::(M++[c])) g (λx hx nx=>kL x hx λe=>nx (by rw[e];exact ZG)) un
  ⟨a,_,_,_,rfl,rfl,rfl,d2,(λe=>absurd e (by simp)),by rw[Z3];exact l,Xu⟩
  (aax.mpr ⟨λz=>by
   rcases aam.mp z with z|z
   ·exact na z
   ·rw[Z1] at z;exact ca z.symm,aa_.mpr ⟨nM,aaS _ _,λx hx y hy e=>by
    rw[Z1] at hy;exact cM (hy▸e▸hx)⟩⟩)
  (λx hx=>by
   rcases ZX.mp hx with hx|hx
   ·rw[hx];exact ZG
   ·exact ZK _ (aaE _ hx))
  (λx hx=>by
   rcases ZX.mp hx with hx|hx
   ·rw[hx];exact .inl ZG
   ·rcases aam.mp hx with hx|hx
    ·exact .inl (ZK _ hx)
    ·rw[Z1] at hx;rw[hx];exact .inr nc)
 obtain⟨u',L2,y1,y2,y3⟩:=h4.child d2 (λe=>absurd e (by simp)) (by rw[Z3];exact l) Xu (Fw hv);rw[ek,wV Ua ll] at y1;cases y1;have e1:dv (jf es) (.tup k)=jf es++[.tup k]:=hV Ua;have e2:∀w,cx (jf es) us (.tup k) w=us++[w]:=λw=>hV Ua;have e3:(λw=>F (.dct (dv (jf (es++[(k,b,V.ref c)])) (.tup k)) (cx (jf (es++[(k,b,V.ref c)])) (us++[u0]) (.tup k) w)))=(λw=>F (.dct (dv (jf es) (.tup k)) (cx (jf es) us (.tup k) w))):=by
  funext w;have m:U.tup k∈jf es++[.tup k]:=Z9 _ ZG;rw[ek,show dv (jf es++[.tup k]) (.tup k)=jf es++[.tup k] from hZ m,show cx (jf es++[.tup k]) (us++[u0]) (.tup k) w=_ from hZ m,Fx Ua ll,e1,e2]
 rw[e3] at y3;refine⟨L4,L2,oZ Ua,y3,z1,λx hx=>?_,g⟩;rcases z2 x hx with y|y
 ·rcases ZX.mp y with y|y
  ·rw[y];exact .inl (h.sub a ZG)
  ·rcases aam.mp y with y|y
   ·exact .inl (h.sub x (ZK _ y))
   ·rw[Z1] at y;exact .inr y
 ·exact .inl y
end
end L2
namespace L2
open Classical in
def Pkg.hx (Z:Pkg)(H:Hp)(L:List Z_):Pkg:=⟨λb=>Z.A0 b\/b∈L,λb=>if b∈L then H b else Z.B b,Z.a0⟩
section
variable {A':Z_->Prop}{ρ':Ev}{σ':St}
theorem rf (h:b∈L):(Z.hx H L).B b=H b:=hZ h
theorem cY (h:b∉L):(Z.hx H L).B b=Z.B b:=hV h
structure mF (K:ZN)(G:Gm)(Z:Pkg)(A:Z_->Prop)(ρ:Ev)(σ:St)(H:Hp)(i n:Nat)(u:U)(v:V)(L:List Z_):Prop where
 at_:σ[i]? = some (some v)
 nod:L.Nodup
 fr:∀b∈L,Z.B b=none/\¬Z.A0 b
 dp:Dp K H A n u v L
 rel:cT K G (Z.hx H L) A (ρ.set i none) σ H
theorem mF.inA (h:mF K G Z A ρ σ H i n u v L)(hb:b∈L):A b:=h.rel.sup b (.inr hb)
theorem Lp (h:∀b∈L,H' b=H b):Z.hx H' L=Z.hx H L:=by
 unfold Pkg.hx;congr 1;funext b;by_cases c:b∈L
 ·rw[hZ c,hZ c,h b c]
 ·rw[hV c,hV c]
theorem mF.kept (h:mF K G Z A ρ σ H i n u v L)(s:aR H H'):∀b∈L,H' b=H b:=λb hb=>by
 cases q:H b with
 |none=>exact absurd q (h.dp.ne hb)
 |some o=>exact s b o q
theorem lV (m:∀b,A b->Mu (H b))(s:aR H H'):A4 A A H H':=⟨m,fZ.same s,λb z=>.inl z⟩
theorem DY (s:aR H H'):∀b,H' b=none->H b=none:=λb e=>by
 cases q:H b with
 |none=>rfl
 |some o=>rw[s b o q] at e;cases e
theorem mF.same (h:mF K G Z A ρ σ H i n u v L)(s:aR H H'):mF K G Z A ρ σ H' i n u v L:=
 ⟨h.at_,h.nod,h.fr,h.dp.re (lV h.rel.mu s) (h.kept s),by rw[Lp (h.kept s)];exact h.rel.same s⟩
theorem mF.put (h:mF K G Z A ρ σ H i n u v L)(g:A4 A A' H H')(aa:∀b,A b->A' b)(k:∀b,b∉L'->H b≠none->H' b=H b)(nd:L'.Nodup)(s1:∀b∈L,b∈L')(s2:∀b∈L',b∈L\/H b=none)(ia:∀b∈L',A' b)(oa:∀b,A' b->A b\/b∈L')
  (d:Dp K H' A' n u' v L') (e:ρ'.set i none=ρ.set i none):mF K G Z A' ρ' σ H' i n u' v L':=by
 have old:∀b,A b->b∉L->b∉L':=λb ha nb z=>by
  rcases s2 b z with y|y
  ·exact nb y
  ·have:=h.rel.mu b ha;rw[y] at this;exact this
 have ne:∀b,A b->H b≠none:=λb ha e=>by
  have:=h.rel.mu b ha;rw[e] at this;exact this
 have nL:∀b,A b->(Z.hx H L).B b=none->b∉L:=λb ha e z=>by
  rw[rf z] at e;exact ne b ha e
 refine⟨h.at_,nd,λb hb=>?_,d,?_⟩
 ·rcases s2 b hb with y|y
  ·exact h.fr b y
  ·refine⟨?_,λz=>ne b (h.rel.sup b (.inl z)) y⟩;cases q:Z.B b with
   |none=>rfl
   |some o=>
    by_cases c:b∈L
    ·exact absurd y (h.dp.ne c)
    ·have:=h.rel.bas b o (by rw[cY c];exact q);rw[this] at y;cases y
 ·rw[e];exact {
   slot:=λj w hj=>by
    obtain⟨x,x1,x2⟩:=h.rel.slot j w hj;refine⟨x,x1,?_⟩;by_cases c:G.is j=true
    ·rw[hZ c] at x2 ⊢;obtain⟨a,e1,e2,e3,e4,e5⟩:=x2;have na:=nL a e2 e3;have Wb:=old a e2 na;refine⟨a,e1,aa a e2,?_,e4.imp (λy z=>y (z.imp id λq=>absurd q Wb)) id,e5.re g.mu g.ex g.nw λo w=>?_⟩
     ·rw[cY Wb];rw[cY na] at e3;exact e3
     ·rw[k a Wb (by rw[w];simp)];exact w
    ·rw[hV c] at x2 ⊢;exact x2.re g.mu g.ex g.nw
   dis:=h.rel.dis
   mu:=λb z=>by
    by_cases c:b∈L'
    ·exact d.mu c
    ·rcases oa b z with y|y
     ·rw[k b c (ne b y)];exact h.rel.mu b y
     ·exact absurd y c
   sup:=λb z=>by
    rcases z with z|z
    ·exact aa b (h.rel.sup b (.inl z))
    ·exact ia b z
   out:=λb z=>by
    by_cases c:b∈L'
    ·exact .inl (.inr c)
    ·rcases oa b z with y|y
     ·rcases h.rel.out b y with q|q
      ·rcases q with q|q
       ·exact .inl (.inl q)
       ·exact absurd (s1 b q) c
      ·rw[cY λz=>c (s1 b z)] at q;exact .inr (by rw[cY c];exact q)
     ·exact absurd y c
   bas:=λb o z=>by
    by_cases c:b∈L'
    ·rw[rf c] at z;exact z
    ·rw[cY c] at z;have cL:b∉L:=λy=>c (s1 b y);have:=h.rel.bas b o (by rw[cY cL];exact z);rw[k b c (by rw[this];simp)];exact this
   io0:=h.rel.io0
   len:=h.rel.len}
theorem cT.hid (q:cT K G Z A ρ σ H)(c:G.is i=true)(hi:G.io=true->i≠0)(h:ρ[i]? = some (some (.dct [] []))):∃a,mF K G Z A ρ σ H i (n+2) (.dct [] []) (.ref a) [a]:=by
 obtain⟨a,h1,h2,h3,h4,h5⟩:=q.own c h;have na:¬Z.A0 a:=by
  rcases h4 with h4|⟨h4,h6⟩
  ·exact h4
  ·exact absurd h6 (hi h4)
 have hk:H a=some (.dK []):=by
  unfold k9 at h5;obtain⟨xs,d,_⟩:=h5;rcases d with⟨bb,d1,d2,_⟩|⟨es,d0,_,d2,_⟩
  ·cases bb with
   |nil=>exact d1
   |cons=>cases d2
  ·cases es with
   |nil=>exact absurd rfl d0
   |cons=>cases d2
 have ne:∀j w b,i≠j->G.is j=true->ρ[j]? = some (some w)->σ[j]? = some (some (.ref b))->b≠a:=λj w b n1 cj e1 e2 e=>by
  subst e;exact q.dis i j _ w b c cj n1 h e1 h1 e2
 refine⟨a,h1,aaS _ _,λb hb=>?_,⟨a,[],[],[],rfl,rfl,rfl,⟨.inr ⟨rfl,hk⟩,abi,(λe he=>nomatch he)⟩,λ_=>hk,abc _,rfl,rfl⟩,?_⟩
 ·rw[Z1] at hb;subst hb;exact⟨h3,na⟩
 ·exact {
   slot:=λj w hj=>by
    rcases dA hj with⟨rfl,e⟩|⟨n1,e⟩
    ·cases e
    ·obtain⟨x,x1,x2⟩:=q.slot j w e;refine⟨x,x1,?_⟩;by_cases cj:G.is j=true
     ·rw[hZ cj] at x2 ⊢;obtain⟨b,e1,e2,e3,e4,e5⟩:=x2;subst e1;have nb:=ne j w b n1 cj e x1;have Xv:b∉[a]:=λz=>nb (Z1.mp z);exact⟨b,rfl,e2,by rw[cY Xv];exact e3,e4.imp (λy z=>y (z.elim id λq=>absurd q Xv)) id,e5⟩
     ·rw[hV cj] at x2 ⊢;exact x2
   dis:=(q.drop i).dis
   mu:=q.mu
   sup:=λb z=>by
    rcases z with z|z
    ·exact q.sup b z
    ·rw[Z1] at z;subst z;exact h2
   out:=λb z=>by
    by_cases y:b∈[a]
    ·exact .inl (.inr y)
    ·exact (q.out b z).imp (λw=>.inl w) λw=>by rw[cY y];exact w
   bas:=λb o z=>by
    by_cases y:b∈[a]
    ·rw[rf y] at z;exact z
    ·rw[cY y] at z;exact q.bas b o z
   io0:=q.io0
   len:=by rw[aaJ];exact q.len}
theorem mF.un (h:mF K G Z A ρ σ H i (n+2) u v L)(c:G.is i=true)(hu:ρ[i]? = some (some u)):cT K G Z (λb=>A b/\(b∈L->v=.ref b)) ρ σ H:=by
 obtain⟨a,us,es,M,e1,e2,e3,d,z,l,al⟩:=id h.dp;subst e1 e2 e3;obtain⟨na,nM⟩:=aax.mp h.nod;have ha:a∈a::M:=ZG;have nL:∀b,A b->(Z.hx H (a::M)).B b=none->b∉a::M:=λb hA e y=>by
  rw[rf y] at e;exact h.dp.ne y e
 have av:∀b,(A b/\(b∈a::M->V.ref a=.ref b))->A b/\b∉M:=λb y=>⟨y.1,λw=>by
  have:=y.2 (ZK _ w);cases this;exact na w⟩
 have yH:∀j w,i≠j->ρ[j]? = some (some w)->(ρ.set i none)[j]? = some (some w):=λj w n1 e=>by rw[aal n1];exact e
 exact {
  slot:=λj w hj=>by
   by_cases n1:i=j
   ·subst n1;rw[hu] at hj;cases hj;refine⟨.ref a,h.at_,?_⟩;rw[hZ c];refine⟨a,rfl,⟨h.inA ha,λ_=>rfl⟩,(h.fr a ha).1,.inl (h.fr a ha).2,?_⟩;unfold k9;exact⟨es.map (·.2.2),d.at z,l,al.rps λu v L' s p=>Dp.rp (λb y=>⟨y.1,λw=>(av b y).2 (s b w)⟩) p⟩
   ·obtain⟨x,x1,x2⟩:=h.rel.slot j w (yH j w n1 hj);refine⟨x,x1,?_⟩;by_cases cj:G.is j=true
    ·rw[hZ cj] at x2 ⊢;obtain⟨b,e1,e2,e3,e4,e5⟩:=x2;have nb:=nL b e2 e3;exact⟨b,e1,⟨e2,λy=>absurd y nb⟩,by rw[cY nb] at e3;exact e3,e4.imp (λy w=>y (.inl w)) id,e5.mono λb y=>y.1⟩
    ·rw[hV cj] at x2 ⊢;exact x2.mono λb y=>y.1
  dis:=λj k w w' b cj ck n1 hj hk sj sk=>by
   have key:∀k w',G.is k=true->i≠k->ρ[k]? = some (some w')->σ[k]? ≠ some (some (.ref a)):=λk w' ck n2 e y=>by
    obtain⟨b,x1,x2,x3,_⟩:=h.rel.own ck (yH k w' n2 e);rw[x1] at y;cases y;exact nL a x2 x3 ha
   by_cases n2:i=j
   ·subst n2;rw[h.at_] at sj;cases sj;exact key k w' ck n1 hk sk
   ·by_cases n3:i=k
    ·subst n3;rw[h.at_] at sk;cases sk;exact key j w cj n2 hj sj
    ·exact h.rel.dis j k w w' b cj ck n1 (yH j w n2 hj) (yH k w' n3 hk) sj sk
  mu:=λb y=>h.rel.mu b y.1
  sup:=λb y=>⟨h.rel.sup b (.inl y),λw=>absurd y (h.fr b w).2⟩
  out:=λb y=>by
   by_cases w:b∈a::M
   ·exact .inr (h.fr b w).1
   ·rcases h.rel.out b y.1 with q|q
    ·exact .inl (q.elim id λx=>absurd x w)
    ·rw[cY w] at q;exact .inr q
  bas:=λb o y=>by
   have w:b∉a::M:=λx=>by rw[(h.fr b x).1] at y;cases y
   exact h.rel.bas b o (by rw[cY w];exact y)
  io0:=h.rel.io0
  len:=by have:=h.rel.len;rw[aaJ] at this;exact this}
theorem cT.pkg {Z':Pkg}(q:cT K G Z A ρ σ H)(e0:Z'.a0=Z.a0)(e1:∀b,Z'.A0 b↔Z.A0 b)(hB:∀b,A b->Z.B b=none->Z'.B b=none)(bas:∀b o,Z'.B b=some o->H b=some o):cT K G Z' A ρ σ H where
 slot:=λj w hj=>by
  obtain⟨x,x1,x2⟩:=q.slot j w hj;refine⟨x,x1,?_⟩;by_cases c:G.is j=true
  ·rw[hZ c] at x2 ⊢;obtain⟨b,AS,e2,e3,e4,e5⟩:=x2;exact⟨b,AS,e2,hB b e2 e3,e4.imp (λy z=>y ((e1 b).mp z)) id,e5⟩
  ·rw[hV c] at x2 ⊢;exact x2
 dis:=q.dis
 mu:=q.mu
 sup:=λb z=>q.sup b ((e1 b).mp z)
 out:=λb z=>(q.out b z).imp (λy=>(e1 b).mpr y) (hB b z)
 bas:=bas
 io0:=λz=>by rw[e0];exact q.io0 z
 len:=q.len
theorem mF.lp (h:mF K G Z A ρ σ H i n u v L):mF K G (Z.lp A H) A ρ σ H i n u v L:=
 ⟨h.at_,h.nod,λb hb=>⟨mw (h.inA hb) (h.fr b hb).1,(h.fr b hb).2⟩,h.dp,h.rel.pkg rfl (λb=>Iff.rfl) (λb ha e=>by
  by_cases c:b∈L
  ·rw[rf c] at e ⊢;exact e
  ·rw[cY c] at e ⊢;exact mw ha e) λb o e=>by
  by_cases c:b∈L
  ·rw[rf c] at e;exact e
  ·rw[cY c] at e;by_cases y:A b/\Z.B b=none
   ·rw[mw y.1 y.2] at e;cases e
   ·rw[jG y] at e;exact e⟩
theorem NL (h:mF K G Z A ρ σ H i n u v L)(e:(Z.lp A H).B b=none):Z.B b=none:=by
 rcases tM e with y|y
 ·exact y.2
 ·cases q:Z.B b with
  |none=>rfl
  |some o=>
   have c:b∉L:=λz=>by rw[(h.fr b z).1] at q;cases q
   have:=h.rel.bas b o (by rw[cY c];exact q);rw[this] at y;cases y
theorem mF.unlp (h:mF K G Z A ρ σ H i n u v L)(h':mF K G (Z.lp A H) A' ρ' σ' H' i n u' v' L'):mF K G Z A' ρ' σ' H' i n u' v' L' :=
 ⟨h'.at_,h'.nod,λb hb=>⟨NL h (h'.fr b hb).1,(h'.fr b hb).2⟩,h'.dp,h'.rel.pkg rfl (λb=>Iff.rfl) (λb ha e=>by
  by_cases c:b∈L'
  ·rw[rf c] at e ⊢;exact e
  ·rw[cY c] at e ⊢;exact NL h e) λb o e=>by
  by_cases c:b∈L'
  ·rw[rf c] at e;exact e
  ·rw[cY c] at e;refine h'.rel.bas b o ?_;rw[cY c,jG (λy=>by rw[e] at y;exact nomatch y.2)];have cL:b∉L:=λz=>by rw[(h.fr b z).1] at e;cases e
   exact h.rel.bas b o (by rw[cY cL];exact e)⟩
theorem mF.ext (h:mF K G Z A ρ σ H i n u v L)(h':mF K G (Z.lp A H) A' ρ' σ' H' i n u' v' L'):fZ A H H'/\∀b,A' b->A b\/H b=none:=by
 refine⟨λb o nb e=>?_,λb z=>?_⟩
 ·have lb:(Z.lp A H).B b=some o:=by rw[jG (λy=>nb y.1)];exact e
  have c:b∉L':=λy=>by rw[(h'.fr b y).1] at lb;cases lb
  exact h'.rel.bas b o (by rw[cY c];exact lb)
 ·have f:(Z.lp A H).B b=none->A b\/H b=none:=λy=>(tM y).imp (λw=>w.1) id;rcases h'.rel.out b z with y|y
  ·rcases y with y|y
   ·exact .inl (h.rel.sup b (.inl y))
   ·exact f (h'.fr b y).1
  ·by_cases c:b∈L'
   ·exact f (h'.fr b c).1
   ·rw[cY c] at y;exact f y
def o8 (K:ZN)(G:Gm)(Z:Pkg)(i n:Nat):SR->nA->Prop
 | .nx ρ',D=>∀A' σ' H' u' v' L',mF K G Z A' ρ' σ' H' i n u' v' L'->ρ'[i]? = some (some u')->D.nx σ' H'
 | .bk ρ',D=>∀A' σ' H' u' v' L',mF K G Z A' ρ' σ' H' i n u' v' L'->ρ'[i]? = some (some u')->D.bk σ' H'
 | .ct ρ',D=>∀A' σ' H' u' v' L',mF K G Z A' ρ' σ' H' i n u' v' L'->ρ'[i]? = some (some u')->D.ct σ' H'
 |_,_=>False
def WU (K:ZN)(G:Gm)(i n:Nat)(g:Ev->SR):TS:=λD σ H=>∃Z A ρ u v L,mF K G Z A ρ σ H i n u v L/\ρ[i]? = some (some u)/\o8 K G Z i n (g ρ) D
theorem o8.lp (h:mF K G Z A ρ σ H i n u v L){r:SR}{D:nA}(f:o8 K G Z i n r D):o8 K G (Z.lp A H) i n r D:=by
 cases r with
 |nx=>exact λA' σ' H' u' v' L' h'=>f A' σ' H' u' v' L' (h.unlp h')
 |bk=>exact λA' σ' H' u' v' L' h'=>f A' σ' H' u' v' L' (h.unlp h')
 |ct=>exact λA' σ' H' u' v' L' h'=>f A' σ' H' u' v' L' (h.unlp h')
 |rt=>exact f.elim
 |exc=>exact f.elim
 |stk=>exact f.elim
theorem o8.of {α:Type}{x:R α}{k:α->SR}{D:nA}(f:o8 K G Z i n (SR.of x k) D):∃a,x=.ok a/\o8 K G Z i n (k a) D:=by
 cases x with
 |ok a=>exact⟨a,rfl,f⟩
 |exc=>exact f.elim
 |stk=>exact f.elim
end
structure DD (X:Cx)(G:Gm)(i n:Nat)(st:adh)(g:Ev->SR):Prop where
 un:PS X st (WU X.K G i n g)
structure PJ (X:Cx)(G:Gm)(i n:Nat)(st:List adh)(g:Ev->SR):Prop where
 un:vt X st (WU X.K G i n g)
section
variable {e a b o f:abH}{rest:List adh}{es:List abH}{pos eQ cpos:Pos}{b1 b2:Bool}{m1 m2 m:Md}{g1 g2:Ev->R (U×Ev)}{h1:Ev->R (Bool×Ev)}{s1 s2:Ev->SR}
theorem Lq:PJ X G i n [] bS:=⟨CG.to λD σ H ⟨Z,A,ρ,u,v,L,h,hu,f⟩=>f A σ H u v L h hu⟩
theorem DZ (h:DD X G i n st s1):PJ X G i n [st] s1:=⟨CH h.un⟩
def xQ (i:Nat)(sg:U->Ev->R Ev)(s:Ev->SR):List U->Ev->SR
 | [],ρ=>.nx ρ
 |u::us,ρ=>SR.of (sg u (ρ.set i none)) λρ1=>match s (ρ1.set i (ρ[i]?.getD none)) with
   | .nx ρ2=>xQ i sg s us ρ2
   | .ct ρ2=>xQ i sg s us ρ2
   | .bk ρ2=>.nx ρ2
   |r=>r
def wW (i:Nat)(gi:Ev->R (List U×Ev))(sg:U->Ev->R Ev)(s:Ev->SR):Ev->SR:=λρ=>SR.of (gi (ρ.set i none)) λx=>xQ i sg s x.1 ρ
theorem PL {gi:Ev->R (List U×Ev)}(hp:ae8 (aan X.prog X.w) X.A X.env X.xe)(hc:X.calm=true)(hi:DI X G tg iter false false gi)(hg:DG X G tg sg)(hb:PJ X G i n body s1)(ci:G.is i=true:=by rfl)(hs:∀x,abn iter X.env x=pure x:=by intro _;rfl):DD X G i n (.For tg iter body [] pos) (wW i gi sg s1):=⟨(CQ hp hc hi.un hg.un hb.un hs).to λD σ H h00=>by
 obtain⟨Z,A,ρ,u,v,L,h,hu,f⟩:=h00;obtain⟨⟨us,ρ1⟩,e1,f⟩:=f.of;refine⟨Z.hx H L,A,ρ.set i none,h.rel,?_⟩;rw[e1];intro J H1 q1 x1 Cy wk;have h1:=h.same (Cy rfl).2;dsimp only at f;obtain⟨hz,wk⟩:=wk;refine⟨λj k σ H=>j+k=us.length/\∃A' ρ' u' v' L',mF X.K G (Z.lp A H1) A' ρ' σ H i n u' v' L'/\ρ'[i]? = some (some u')/\o8 X.K G (Z.lp A H1) i n (xQ i sg s1 (us.drop j) ρ') D,⟨us.length,by lia,A,ρ,u,v,L,h1.lp,hu,by rw[ac6];exact f.lp h1⟩,?_⟩;rintro j k σ H ⟨hk,A',ρ',u',v',L',h',gG,f'⟩;obtain⟨ex,nw⟩:=h1.ext h';obtain⟨w1,w2⟩:=wk H A' (by rw[hV ZM];exact ex) nw;by_cases vU:j<us.length
 ·have eu:us[j]? = some us[j]:=ZH vU;obtain⟨go,yl⟩:=w1 j _ eu;rw[aaL vU] at f';unfold xQ at f';obtain⟨ρ2,e2,f2⟩:=f'.of;refine .inr ⟨go,λσ H=>∃A' ρ' u' v' L',mF X.K G (Z.lp A H1) A' ρ' σ H i n u' v' L'/\ρ'[i]? = some (some u')/\o8 X.K G (Z.lp A H1) i n (xQ i sg s1 (us.drop (j+1)) ρ') D,λσ' H' z=>⟨k-1,by lia,by lia,z⟩,λx H' y=>?_⟩;obtain⟨sm,rp⟩:=yl x H' y;have h2:=h'.same sm;refine⟨(Z.lp A H1).hx H' L',A',ρ'.set i none,us[j],h2.rel,rp,?_⟩;rw[e2];intro σ2 q2 keep;have JT:σ2[i]? = some (some v'):=by rw[keep i ci];exact h2.at_
  have il:i<ρ2.length:=by
   rw[q2.len];exact (ZQ.mp JT).1
  have Mt:(ρ2.set i (some u'))[i]? = some (some u'):=aa2 il;rw[gG,ade] at f2;refine⟨Z.lp A H1,A',ρ2.set i (some u'),u',v',L',⟨JT,h2.nod,h2.fr,h2.dp,by rw[List.set_set];exact q2.drop i⟩,Mt,?_⟩;cases e3:s1 (ρ2.set i (some u')) with
  |nx ρ3=>rw[e3] at f2;exact λA3 σ3 H3 u3 v3 L3 h3 Wc=>⟨A3,ρ3,u3,v3,L3,h3,Wc,f2⟩
  |ct ρ3=>rw[e3] at f2;exact λA3 σ3 H3 u3 v3 L3 h3 Wc=>⟨A3,ρ3,u3,v3,L3,h3,Wc,f2⟩
  |bk ρ3=>rw[e3] at f2;exact f2
  |rt=>rw[e3] at f2;exact f2
  |exc=>rw[e3] at f2;exact f2
  |stk=>rw[e3] at f2;exact f2
 ·have e:j=us.length:=by lia
  subst e;rw[acw] at f';exact .inl ⟨w2,f' A' σ H u' v' L' h' gG⟩⟩
def wX (i:Nat)(g:Ev->SR):Ev->SR:=λρ=>match ρ[i]? with
 |some (some (.dct [] []))=>match g ρ with
  | .nx ρ'=>.nx ρ'
  | .bk ρ'=>.bk ρ'
  | .ct ρ'=>.ct ρ'
  |_=>.stk
 |_=>.stk
theorem Lr (h:DD X G i (n+2) st s1)(hi:G.io=true->i≠0:=by decide)(c:G.is i=true:=by rfl):DS X G m st (wX i s1):=⟨h.un.to λD σ H h00=>by
 obtain⟨Z,A,ρ,q,f⟩:=h00;unfold wX at f;split at f
 ·rename_i hu;obtain⟨a,hd⟩:=q.hid (n:=n) c hi hu;refine⟨Z,A,ρ,_,_,_,hd,hu,?_⟩;cases e:s1 ρ with
  |nx=>rw[e] at f;exact λA' σ' H' u' v' L' h' gG=>f _ σ' H' (h'.un c gG)
  |bk=>rw[e] at f;exact λA' σ' H' u' v' L' h' gG=>f _ σ' H' (h'.un c gG)
  |ct=>rw[e] at f;exact λA' σ' H' u' v' L' h' gG=>f _ σ' H' (h'.un c gG)
  |rt=>rw[e] at f;exact f.elim
  |exc=>rw[e] at f;exact f.elim
  |stk=>rw[e] at f;exact f.elim
 ·exact f.elim⟩
end
end L2
namespace L2
def uD (i:Nat):Ev->R (U×(U->U)):=λρ=>match ρ[i]? with
 |some (some u)=>.ok (u,id)
 |_=>.stk
def UH (K:ZN)(G:Gm)(i n m:Nat)(gp:Ev->R (U×(U->U))):TE:=λσ H Q=>∃Z A ρ u v L,mF K G Z A ρ σ H i n u v L/\ρ[i]? = some (some u)/\match gp ρ with
 | .ok (u',F)=>∀A1 H1 L1 v' L',mF K G Z A1 ρ σ H1 i n (F u') v L1->At K H1 A1 n v L1 m u' v' L' F->Q v' H1
 |_=>False
def Vt:Nat->HO
 |0=>.lst []
 |_=>.dK []
def PM:Nat->U
 |0=>.lst []
 |_=>.dct [] []
def WV (m:Nat):TE:=λ_ H Q=>∀p,H p=none->Q (.ref p) (cH H p (Vt m))
theorem PN {c:Z_}:∀{m:Nat},m≠1->H c=some (Vt m)->Dp K H A m (PM m) (.ref c) [c]
 |1,n,_=>absurd rfl n
 |0,_,h=>⟨c,[],[],rfl,rfl,rfl,h,abc _,aH.nil⟩
 |m+2,_,h=>⟨c,[],[],[],rfl,rfl,rfl,⟨.inr ⟨rfl,h⟩,abi,(λe he=>nomatch he)⟩,λ_=>h,abc _,rfl,rfl⟩
theorem Dp.self {c:Z_}:∀{m:Nat},m≠1->Dp K H A m u (.ref c) L->c∈L
 |1,n,_=>absurd rfl n
 |0,_,⟨a,_,_,e,_,e2,_⟩=>by cases e;subst e2;exact ZG
 |m+2,_,⟨a,_,_,_,e,_,e2,_⟩=>by cases e;subst e2;exact ZG
section
variable {e o f:abH}{pos eQ cpos p1:Pos}{y:Str}{mk:Md}{gk:Ev->R (U×Ev)}{gp:Ev->R (U×(U->U))}
theorem Ls:PE X (.List [] pos) (WV 0):=(Ge pM).to λσ H Q h=>⟨abc _,h⟩
theorem Lu (i:Nat)(hN:X.N[i]? = some y:=by rfl)(hv:A8 X.env.scope y:=by first|exact Or.inl rfl|exact Or.inr (Or.inl rfl)|exact Or.inr (Or.inr rfl))(hd:(y==("__debug__":Str))=false:=by decide)
  (ly:(y==("__classdict__":Str))=false:=by decide):PE X (.Name y pos) (UH X.K G i n n (uD i)):=(f6 hN hv hd ly).to λσ H Q h00=>by
 obtain⟨Z,A,ρ,u,v,L,h,hu,f⟩:=h00;unfold uD at f;rw[hu] at f;exact⟨v,h.at_,f A H L v L h (.root h.dp h.nod)⟩
def IE (i:Nat)(gp:Ev->R (U×(U->U)))(g:Ev->R (U×Ev)):Ev->SR:=λρ=>SR.of (gp ρ) λx=>SR.of (g (ρ.set i none)) λy=>match x.1 with
 | .lst us=>if us.length<ZL then .nx (ρ.set i (some (x.2 (.lst (us++[y.1]))))) else .stk
 |_=>.stk
theorem PQ (ho:PE X o (UH X.K G i n 0 gp))(he:DE X G e false mk gk)(hn:mk≠.P:=by decide)
  (vc:acV o "append" X.env (acD o X.env)=acD o X.env:=by rfl)
  (Cu:((abW cpos (Z8 [e] X.env)).all (λx=> !x.1)&&(backToKw cpos (adR [] X.env)).all (λx=>x.1.isSome)
   && decide ([e].length+([]:List adu).length+(if ([]:List adu).isEmpty then 0 else 1)<30))=true:=by rfl)
  (vd:(eQ.endLine==cpos.line)=true:=by rfl) (hs:Z8 [e] X.env=(false,acD e X.env)::Z8 [] X.env:=by rfl) (nY:(abW cpos (Z8 [] X.env)).any (·.1)=false:=by rfl)
  (hw:ac3 (.Call (.Attribute o "append" eQ) [e] [] cpos) none pos.line X.env=pure false:=by rfl) :
  DD X G i n (.Expr (.Call (.Attribute o "append" eQ) [e] [] cpos) pos) (IE i gp gk):=⟨(CI (Gf aaV abq abr iZ ho (ae (p:=false) he ai (λh=>absurd h hn) hs).un vc Cu vd hs nY) hw).to λD σ H h00=>by
 obtain⟨Z,A,ρ,u,v,L,hd,hu0,f⟩:=h00;obtain⟨⟨u1,F⟩,e1,f⟩:=f.of;obtain⟨⟨y,ρy⟩,e2,f⟩:=f.of;dsimp only at e2 f;refine⟨Z,A,ρ,u,v,L,hd,hu0,?_⟩;rw[e1];intro A1 H1 L1 v' L' JU QO;obtain⟨a,us,xs,r1,r2,r3,q,l,r⟩:=id QO.dp;subst r1 r2 r3;dsimp only at f;split at f;rotate_left
 ·exact f.elim
 rename_i hl;refine⟨.inl ⟨rfl,xs,.inl (.inl q)⟩,Z.hx H1 L1,A1,ρ.set i none,JU.rel,?_⟩;unfold af;rw[e2];intro vs H2 q2 x2 s2 pD;have sm:=(s2 rfl).2;have rr:=pD.rps;unfold aH at rr;obtain⟨w,wr,rfl,rw1,rw2⟩:=rr;unfold aH at rw2;subst rw2;have JT:=QO.keep (lV JU.rel.mu sm) (JU.kept sm) (DY sm);have F2:=JU.same sm;have Yw:H2 a=some (.lst xs):=sm a _ q;have r2:=r.same sm;refine⟨a,xs,w,rfl,rfl,Yw,by rw[←r.length];exact hl,?_⟩;have aA:A1 a:=F2.inA (JT.sub a ZG);have hb:∀b,b≠a->cH H2 a (.lst (xs++[w])) b=H2 b:=λb nb=>by unfold cH;rw[hV nb]
 have g:A4 A1 A1 H2 (cH H2 a (.lst (xs++[w]))):=⟨F2.rel.mu,λb o nb e=>by rw[hb b (λz=>nb (z▸aA))];exact e,λb z=>.inl z⟩;obtain⟨L4,d4,n4,z1,z3,z2⟩:=JT.put _ A1 (.lst (us++[y])) [a] g (λb yN nb=>hb b λz=>nb (by rw[z];exact ZG))
  ⟨a,_,_,rfl,rfl,rfl,bj,by rw[Z3];exact hl,(r2.snoc rw1).re g.mu g.ex g.nw⟩ (aaS _ _) (λb hb=>hb) (λb hb=>.inl hb)
 have il:i<ρ.length:=by
  have:=F2.rel.len;rw[aaJ] at this;rw[this];exact (ZQ.mp F2.at_).1
 refine f A1 σ _ _ v L4 (F2.put g (λb z=>z) (λb nb ne=>hb b λz=>nb (z3 b (by rw[z];exact ZG))) n4 z1 (λb yN=>?_) (λb yN=>?_) (λb z=>.inl z) d4 (List.set_set _)) (aa2 il)
 ·rcases z2 b yN with x|x
  ·rw[Z1] at x;rw[x];exact .inl (JT.sub a ZG)
  ·exact .inl x
 ·rcases z2 b yN with x|x
  ·rw[Z1] at x;rw[x];exact aA
  ·exact F2.inA x⟩
end
end L2
namespace L2
open PySem.W Hc.Dw
def IF:List V->Hp->VK->Prop:=λxs H Q=>∃p ep es,xs=[.ref p]/\H p=some (DN p ep es)/\es.length<=ZL/\∀l,H l=none->Q (.ref l) (cH H l (.lst (es.map λe=>V.ref e.2.1)))
theorem D0:∀(es:List (List U×Z_×V)),bg (es.map λe=>V.ref e.2.1) ((es.map (·.2.1)).map Value.ref)
 | []=>.nil
 |_::es=>.cons rfl (D0 es)
theorem B1 (hc:X.calm=true):fB X (.type "list") IF:=by
 intro pins s σ H xs us Q I r h;obtain⟨p,ep,es,rfl,hs,hz,q⟩:=h;obtain⟨u,rfl,rx⟩:=jE r;cases rx;obtain⟨lo,ds,rd,n,at_⟩:=I.rawD hs;refine kdl_call (A:=X.A) (SJ lo) (I.ok.hd hc) rd (by rw[n];exact hz) λh1 tk bE c k1 e1 ia=>?_;have e:bE.toList=(es.map (·.2.1)).map Value.ref:=by
  apply acZ;intro i;rw[aaj,ZY,ZT];by_cases hi:i<bE.size
  ·rw[getElem?_pos bE i hi];obtain⟨en,e1,e2⟩:=ia.2 i _ (getElem?_pos bE i hi);have yE:i<ds.size:=by rw[←ia.1];exact hi
   rw[getElem?_pos ds i yE] at e1;cases e1;obtain⟨x,m,ek,_⟩:=at_ i yE;rw[m,e2,ek];rfl
  ·rw[ab3 (by lia)];have:es[i]? = none:=List.getElem?_eq_none (by rw[←n,←ia.1];lia);rw[this];rfl
 have e3:bE=((es.map (·.2.1)).map Value.ref).toArray:=by rw[←e]
 rw[e3] at e1;exact⟨.ref s.heap.objs.size,_,I.laid (t':=tk) k1 (ZS _) (show dH X.prog X.w _ h1 _ (.lst (es.map λe=>V.ref e.2.1)) from ⟨by rw[ZF];exact hz,_,c,D0 es,e1⟩),rfl,q _ (I.hok.fresh (ZS _))⟩
def uE:List U->R U:=λus=>match us with
 | [.dct ks _]=>if BQ ks=true then .ok (.lst ks) else .stk
 |_=>.stk
theorem z_ {K:ZN}{H:Hp}{A:Z_->Prop}:∀{es:List (List U×Z_×V)},(∀e∈es,vo H e.1 e.2.1)->aH K H A (es.map λp=>.tup p.1) (es.map λe=>V.ref e.2.1)
 | [],_=>aH.nil
 |e::es,h=>aH.cons (Ik (h e ZG)) (z_ λx hx=>h x (ZK _ hx))
theorem Fy:mR K IF .O uE:=λA H vs us z Q h mu e q=>by
 unfold uE at e;split at e
 ·rename_i ks ws;split at e
  ·rename_i wk;cases e;obtain⟨v,rfl,p⟩:=h.one;unfold Pk at p;obtain⟨a,xs,rfl,d,l,r⟩:=p;obtain⟨es,ep,h1,kt,rfl,rfl⟩:=BR wk d;have le:es.length<=ZL:=by have:=r.length;rw[ZF] at this;lia
   exact⟨a,ep,es,rfl,h1,le,λl hl=>q _ _ (cR hl _) ⟨l,rfl,hl,di mu (z_ kt) hl (by rw[ZF];exact le)⟩⟩
  ·cases e
 ·cases e
theorem uF {A:aaC}{k v:abH}{pos:Pos}(h:aac (aan prog w) A (acD k env) (λkv s1=>aac (aan prog w) A (acD v env) (λvv s2=>aac (aan prog w) A (dictSet s.heap.objs.size kv vv) (λ_ s3=>Q (.ref s.heap.objs.size) s3) E s2) E s1) E {s with heap:=s.heap.push {cls:=.type "dict",data:=.dict #[]}}) :
  aac (aan prog w) A (acD (.Dict [some k] [v] pos) env) Q E s:=by
 rw[arm_eval_Dict,zip_pairTrees [some k] [v] env pos rfl rfl,dictDisplay_pairs (pairTrees [some k] [v] env pos) (by simp[pairTrees]) (by simp[pairTrees])];refine ZE (wpAny_standAt (ZE ?_));unfold subDict;refine ZE (wpAny_alloc ?_);refine ZE (aa9 ?_);rw[hZ (by simp[pairTrees])];refine ZE (pairTrees_cons_walk (aaM h (λkv s1 h1=>aaM h1 (λvv s2 h2=>pairTrees_nil_walk ?_) λ_ _ e=>e) λ_ _ e=>e));refine aa9 ?_;rw[adB];refine ZE (ZE (ZE (aaM h2 (λ_ s3 h3=>ZJ ?_) λ_ _ e=>e)));show aac _ _ (forIn [] _ _) _ _ _;rw[List.forIn_nil];exact ZJ (ZJ (ZJ (ZJ h3)))
def PR (tk tv:TE):TE:=λσ H Q=>∀p,H p=none->tk σ (cH H p (.dK [])) λx H1=>tv σ H1 λy H2=>∃kk b,x=.ref b/\H2 p=some (.dK [])/\vo H2 kk b/\∀ep,Q (.ref p) (cH H2 p (DN p ep (jP [] kk b y)))
theorem IG {pos:Pos}{k v:abH}{tk tv:TE}(hu:X.A.units+64<abo)(hk:PE X k tk)(hv:PE X v tv):PE X (.Dict [some k] [v] pos) (PR tk tv):=by
 intro pins s σ H Q I q;have hn:=I.hok.fresh (ZS s.heap.objs.size);have I1:=I.laid (a:=s.heap.objs.size) (o:=.dK []) (h':=s.heap.push {cls:=.type "dict",data:=.dict #[]}) (t':=s.toks) (λ_ _ q=>ZP _ q) (ZS _) (y9 s.heap I.big);refine uF (fQ (hk pins _ σ _ _ I1 (q _ hn)) λu s1 ⟨x,H1,I1,rx,q1⟩=>fQ (hv pins s1 σ H1 _ I1 q1) λw2 s2 ⟨y,H2,I2,ry,q2⟩=>?_);obtain⟨kk,b,rfl,e,kb,q2⟩:=q2;cases rx;have g:fx H2 s.heap.objs.size []:=⟨.inr ⟨rfl,e⟩,abi,λe he=>by cases he⟩;obtain⟨xs,rel,dd⟩:=g.of I2.hok;refine wpAny_dictSet_heap (hsz:=by rw[←adq rel];exact abc _) (show X.A.units+20<abo by lia) (kb.tk I2.hok) dd λh' N_ hs=>?_;obtain⟨q,ds,ep,hq,h2,h3,h4,_,h5⟩:=N_;refine⟨.ref s.heap.objs.size,_,?_,rfl,q2 ep⟩;exact sv I2 g.mut hs ⟨q,hq⟩ ⟨⟨g.lo I2.hok,q,ds,_,hq,h2,h3,zf kk ry rel,h4⟩,⟨q,hq⟩,λg1 g2 ⟨l,o,ds,xs,z1,z2⟩ kp=>⟨l,o,ds,xs,kp _ z1,z2⟩⟩
def QZ (j:Nat)(n:Int):Ev->R (U×Ev):=λρ=>match ρ[j]? with
 |some (some (.tup ks))=>if oK (.tup ks)=true then .ok (.dct [.tup ks] [.int n],ρ) else .stk
 |_=>.stk
theorem IH {pos p1 k2 p2}{y:Str}{n:Int}(hu:X.A.units+64<abo)(hN:X.N[j]? = some y:=by rfl)(hv:A8 X.env.scope y:=by first|exact Or.inl rfl|exact Or.inr (Or.inl rfl)|exact Or.inr (Or.inr rfl))(c:G.is j=false:=by rfl)(hd:(y==("__debug__":Str))=false:=by decide)(ly:(y==("__classdict__":Str))=false:=by decide):DE X G (.Dict [some (.Name y p1)] [.Constant (.int n) k2 p2] pos) false .O (QZ j n):=⟨(IG hu (f6 hN hv hd ly) F4).to λσ H Q h=>by
 obtain⟨Z,A,ρ,q,f⟩:=h;unfold QZ at f;split at f
 ·rename_i ks h0;split at f
  ·rename_i kt;intro a na;obtain⟨v,h1,h2⟩:=q.slot j _ h0;rw[hV (by rw[c];exact ZM)] at h2;obtain⟨b,rfl,kb⟩:=qz kt h2;have s1:=cR na (.dK []);refine⟨.ref b,h1,ks,b,rfl,bj,kb.to λc ys hc=>s1 _ _ hc,λep=>?_⟩;have sn:aR H (cH (cH H a (.dK [])) a (DN a ep (jP [] ks b (.int n)))):=λb o e=>by
    have nb:b≠a:=λz=>by rw[z,na] at e;cases e
    rw[a_ nb,a_ nb];exact e
   exact f _ _ (q.same sn) (fZ.same sn) (λ_=>⟨rfl,sn⟩) (FV.e q sn ⟨a,rfl,na,[.int n],.inr ⟨[(ks,b,.int n)],List.cons_ne_nil _ _,⟨.inl ⟨ep,bj⟩,aax.mpr ⟨acx,abi⟩,λe he=>by
    rw[Z1.mp he];exact kb.to λc ys hc=>sn _ _ hc⟩,rfl,rfl⟩,(by have:ZL=16777216:=rfl;rw[this];simp),aH.cons dN aH.nil⟩)
  ·exact f.elim
 ·exact f.elim⟩
end L2
namespace L2
section
variable {e a b o f:abH}{rest:List adh}{pos eQ cpos p1 jD lp:Pos}{y:Str}{m1 mk:Md}{g1 gk:Ev->R (U×Ev)}{gp:Ev->R (U×(U->U))}{s1 s2:Ev->SR}
theorem Aa (ha:DD X G i n st s1)(hb:PJ X G i n rest s2):PJ X G i n (st::rest) (aK s1 s2):=⟨(yT ha.un hb.un).to λD σ H h00=>by
 obtain⟨Z,A,ρ,u,v,L,h,hu,f⟩:=h00;refine⟨Z,A,ρ,u,v,L,h,hu,?_⟩;unfold aK at f;cases e:s1 ρ with
 |nx ρ1=>rw[e] at f;exact λA1 σ1 H1 u1 v1 L1 h1 jz=>⟨Z,A1,ρ1,u1,v1,L1,h1,jz,f⟩
 |rt=>rw[e] at f;exact f
 |bk=>rw[e] at f;exact f
 |ct=>rw[e] at f;exact f
 |exc=>rw[e] at f;exact f
 |stk=>rw[e] at f;exact f⟩
def Ab (i:Nat)(sg:U->Ev->R Ev)(g:Ev->R (U×Ev)):Ev->SR:=λρ=>SR.of (g (ρ.set i none)) λx=>SR.of (sg x.1 (ρ.set i none)) λρ2=>.nx (ρ2.set i (ρ[i]?.getD none))
theorem PU (h:DE X G e false m1 g1)(hg:DG X G tg sg)(hn:m1≠.P:=by decide)(ci:G.is i=true:=by rfl)(hs:swapsWithSole [tg] e pos.line X.env=pure false:=by rfl)(hw:swappedStores [tg] e X.env=pure none:=by rfl)(h1:(abf [tg] X.env).map (·.2)=[ad3 tg X.env]:=by rfl):DD X G i n (.Assign [tg] e pos) (Ab i sg g1):=⟨(Ba h.un hg.un hs hw h1).to λD σ H h00=>by
 obtain⟨Z,A,ρ,u,v,L,hd,hu,f⟩:=h00;obtain⟨⟨x,ρ1⟩,e1,f⟩:=f.of;obtain⟨ρ2,e2,f⟩:=f.of;refine⟨Z.hx H L,A,ρ.set i none,hd.rel,?_⟩;rw[e1];intro vy H1 q1 x1 s1 vm;have sm:=(s1 rfl).2;have h2:=hd.same sm;refine⟨Z.hx H1 L,A,ρ.set i none,x,h2.rel,vm.rp hn,?_⟩;dsimp only at e2;rw[e2];intro σ2 q2 keep;have JT:σ2[i]? = some (some v):=by rw[keep i ci];exact h2.at_
 have il:i<ρ2.length:=by
  rw[q2.len];exact (ZQ.mp JT).1
 have Mt:(ρ2.set i (some u))[i]? = some (some u):=aa2 il;rw[hu,ade] at f;exact f A σ2 H1 u v L ⟨JT,h2.nod,h2.fr,h2.dp,by rw[List.set_set];exact q2.drop i⟩ Mt⟩
def B2 (i:Nat)(gp:Ev->R (U×(U->U)))(gk:Ev->R (U×Ev)):Ev->R (U×(U->U)):=λρ=>(gp ρ).bind λx=>(gk (ρ.set i none)).bind λk=>match x.1 with
 | .dct ks us=>if oK k.1=true then (match cX ks us k.1 with
  |some z=>.ok (z,λw=>x.2 (.dct (dv ks k.1) (cx ks us k.1 w)))
  |none=>.stk) else .stk
 |_=>.stk
theorem PV (hu:X.A.units+64<abo)(ho:PE X o (UH X.K G i n (m+2) gp))(he:DE X G e false mk gk)(hn:mk≠.P:=by decide)(hs:Kr e:=by intro _ _;rfl):PE X (.Subscript o e pos) (UH X.K G i n m (B2 i gp gk)):=(C5 hu ho he.un hs).to λσ H Q h00=>by
 obtain⟨Z,A,ρ,u,v,L,hd,hu0,f⟩:=h00;unfold B2 at f;cases e1:gp ρ with
 |stk=>rw[e1] at f;exact f.elim
 |exc=>rw[e1] at f;exact f.elim
 |ok x=>
  obtain⟨u1,F⟩:=x;rw[e1] at f;dsimp only[R.bind] at f;cases e2:gk (ρ.set i none) with
  |stk=>rw[e2] at f;exact f.elim
  |exc=>rw[e2] at f;exact f.elim
  |ok k=>
   obtain⟨k,ρk⟩:=k;rw[e2] at f;dsimp only[R.bind] at f;refine⟨Z,A,ρ,u,v,L,hd,hu0,?_⟩;rw[e1];intro A1 H1 L1 v' L' JU QO;obtain⟨a,us,es,M,r1,r2,r3,d,z,l,al⟩:=id QO.dp;subst r1 r2 r3;dsimp only at f;refine⟨Z.hx H1 L1,A1,ρ.set i none,JU.rel,?_⟩;rw[e2];intro vk H2 q2 x2 s2 pD;have FU:=(s2 rfl).2;by_cases AU:oK k=true;rotate_left
   ·rw[hV AU] at f;exact f.elim
   rw[hZ AU] at f;cases k<;>first|(cases AU;done)|skip
   rename_i kk;obtain⟨b,rfl,kb⟩:=qz AU (pD.rp hn);have QP:=lV JU.rel.mu FU;have Ub:=JU.kept FU;have Yx:=QO.keep QP Ub (DY FU);have ka:=Ub a (QO.sub a ZG);have d3:=d.re ka QP.tup;have Yy:=al.imp λu v L' s (p:Dp X.K H1 A1 m u v L')=>p.re QP λb hb=>Ub b (QO.sub b (ZK _ (s b hb)));cases hx:gN es kk with
   |none=>
    rw[show cX (es.map λp=>U.tup p.1) us (.tup kk)=none from oZ λz=>uC hx (oY.mp z)] at f;exact f.elim
   |some x=>
    obtain⟨u',L2,y1,y2,y3⟩:=Yx.child d3 (by rw[ka];exact z) l Yy hx;rw[show cX (es.map λp=>U.tup p.1) us (.tup kk)=some u' from y1] at f;refine⟨a,x,rfl,.inr ⟨es,kk,b,d3,rfl,kb,hx.symm⟩,f A1 _ L1 x L2 ?_ y3⟩;show mF _ _ _ _ _ _ _ _ _ (F (.dct (dv (jf es) (.tup kk)) (cx (jf es) us (.tup kk) u'))) _ _;rw[y2];exact JU.same FU
def II (i:Nat)(gk:Ev->R (U×Ev))(s1 s2:Ev->SR):Ev->SR:=λρ=>SR.of (gk (ρ.set i none)) λk=>match ρ[i]? with
 |some (some (.dct ks us))=>if oK k.1=true then (if (cX ks us k.1).isSome=true then s2 ρ else s1 ρ) else .stk
 |_=>.stk
theorem PX {sa sb:List adh}(hu:X.A.units+64<abo)(he:DE X G e false mk gk)(ha:PJ X G i (n+2) sa s1)(hb:PJ X G i (n+2) sb s2)(hn:mk≠.P:=by decide)(hN:X.N[i]? = some y:=by rfl)(hv:A8 X.env.scope y:=by first|exact Or.inl rfl|exact Or.inr (Or.inl rfl)|exact Or.inr (Or.inr rfl))(hd:(y==("__debug__":Str))=false:=by decide)
  (ly:(y==("__classdict__":Str))=false:=by decide) (hm:acT .NotIn (.Name y p1)=false:=by with_unfolding_all rfl):DD X G i (n+2) (.If (.Compare e [.NotIn] [.Name y p1] cpos) sa sb pos) (II i gk s1 s2):=⟨(My (CL (E9 hu) he.un (f6 hN hv hd ly) hm) ha.un hb.un).to λD σ H h00=>by
 obtain⟨Z,A,ρ,u,v,L,hd,hu0,f⟩:=h00;obtain⟨⟨k,ρk⟩,e2,f⟩:=f.of;rw[hu0] at f;obtain⟨a,us,es,M,r1,r2,r3,d,z,l,al⟩:=id hd.dp;subst r1 r2 r3;dsimp only at f;by_cases AU:oK k=true;rotate_left
 ·rw[hV AU] at f;exact f.elim
 rw[hZ AU] at f;refine⟨Z.hx H _,A,ρ.set i none,hd.rel,?_⟩;rw[e2];intro vk H2 q2 x2 s2 pD;have FU:=(s2 rfl).2;have h2:=hd.same FU;cases k<;>first|(cases AU;done)|skip
 rename_i kk;obtain⟨b,rfl,kb⟩:=qz AU (pD.rp hn);have QP:=lV hd.rel.mu FU;have ka:=hd.kept FU a ZG;have d3:=d.re ka QP.tup;refine⟨.ref a,h2.at_,a,gN es kk,rfl,.inr ⟨es,kk,b,d3,rfl,kb,rfl⟩,_,rfl,?_⟩;cases hx:gN es kk with
 |none=>
  rw[show cX (es.map λp=>U.tup p.1) us (.tup kk)=none from oZ λz=>uC hx (oY.mp z)] at f;exact⟨Z,A,ρ,_,_,_,h2,hu0,f⟩
 |some x=>
  obtain⟨_,nM⟩:=aax.mp hd.nod;obtain⟨u',_,y1,_⟩:=al.find d.nd nM hx;rw[show cX (es.map λp=>U.tup p.1) us (.tup kk)=some u' from y1] at f;exact⟨Z,A,ρ,_,_,_,h2,hu0,f⟩⟩
def wY (i m:Nat)(gk:Ev->R (U×Ev)):Ev->SR:=λρ=>SR.of (gk (ρ.set i none)) λk=>match ρ[i]? with
 |some (some (.dct ks us))=>if oK k.1=true/\us.length<ZL then (match cX ks us k.1 with
  |none=>.nx (ρ.set i (some (.dct (dv ks k.1) (cx ks us k.1 (PM m)))))
  |some _=>.stk) else .stk
 |_=>.stk
theorem Lv (hu:X.A.units+64<abo)(he:DE X G e false mk gk)(hf:PE X f (WV m))(Xw:m≠1:=by decide)(hn:mk≠.P:=by decide)(hN:X.N[i]? = some y:=by rfl)(hv:A8 X.env.scope y:=by first|exact Or.inl rfl|exact Or.inr (Or.inl rfl)|exact Or.inr (Or.inr rfl))(hd:(y==("__debug__":Str))=false:=by decide)
  (ly:(y==("__classdict__":Str))=false:=by decide) (hs:ac3 f (some (.Subscript (.Name y p1) e jD)) pos.line X.env=pure false:=by rfl):DD X G i (m+2) (.Assign [.Subscript (.Name y p1) e jD] f pos) (wY i m gk):=⟨(C6 hu (f6 hN hv hd ly) he.un hf hs).to λD σ H h00=>by
 obtain⟨Z,A,ρ,u,v,L,hd,hu0,f⟩:=h00;obtain⟨⟨k,ρk⟩,e2,f⟩:=f.of;rw[hu0] at f;obtain⟨a,us,es,M,r1,r2,r3,d,z,l,al⟩:=id hd.dp;subst r1 r2 r3;dsimp only at f;by_cases hk:oK k=true/\us.length<ZL;rotate_left
 ·rw[hV hk] at f;exact f.elim
 rw[hZ hk] at f;intro c nc;have s3:aR H (cH H c (Vt m)):=cR nc _;have h1:=hd.same s3;refine⟨.ref a,h1.at_,Z.hx _ _,A,ρ.set i none,h1.rel,?_⟩;rw[e2];intro vk H2 q2 x2 s2 pD;have FU:=(s2 rfl).2;have UQ:=s3.trans FU;have AU:oK k=true:=hk.1;cases k<;>first|(cases AU;done)|skip
 rename_i kk;obtain⟨b,rfl,kb⟩:=qz AU (pD.rp hn);have QP:=lV hd.rel.mu UQ;have Ub:=hd.kept UQ;have ka:=Ub a ZG;have d3:=d.re ka QP.tup;have hl:es.length=us.length:=by rw[al.length,ZF]
 cases hx:gN es kk with
 |some x=>
  obtain⟨_,nM⟩:=aax.mp hd.nod;obtain⟨u',_,y1,_⟩:=al.find d.nd nM hx;rw[show cX (es.map λp=>U.tup p.1) us (.tup kk)=some u' from y1] at f;exact f.elim
 |none=>
  refine⟨a,rfl,.inr ⟨es,kk,b,d3,rfl,kb,by lia,λep=>?_⟩⟩;obtain⟨L4,L2,y1,y3,z1,z2,g⟩:=At.new (H0:=H) (c:=c) (u0:=PM m) (ep:=ep) (At.root hd.dp hd.nod) d hk.2 al hd.rel.mu (λb hb=>hd.inA hb) UQ nc kb hx rfl (λH' e _=>PN Xw (by rw[e];exact FU c _ bj));rw[show cX (es.map λp=>U.tup p.1) us (.tup kk)=none from y1] at f;have il:i<ρ.length:=(ZQ.mp hu0).1;refine f _ σ _ _ _ L4 (hd.put g (λb z=>.inl z) (λb nb ne=>?_) y3.nod z1 (λb hb=>?_) (λb hb=>?_) (λb z=>?_) y3.all (List.set_set _)) (aa2 il)
  ·have:b≠a:=λq=>nb (by rw[q];exact z1 a ZG);show (if b=a then _ else _)=_;rw[hV this];cases q:H b with
   |none=>exact absurd q ne
   |some o=>exact UQ b o q
  ·rcases z2 b hb with y|y
   ·exact .inl y
   ·rw[y];exact .inr nc
  ·exact (z2 b hb).imp (λy=>hd.inA y) id
  ·rcases z with z|z
   ·exact .inl z
   ·rw[z];exact .inr (y3.sub c (y3.dp.self Xw))⟩
end
end L2
namespace L2
section
variable {e:abH}{pos lu p1 p2:Pos}{b1:Bool}{ga:Ev->R (List U×Ev)}
def NM (w:acs):List V->Hp->VK->Prop:=λxs H Q=>∃(p:Z_) (bs:List Z_),xs=[.ref p]/\H p=some (.ext (BX w p bs))/\bs.length<2046/\Q (.int bs.length) H
theorem Fz:fB X (.builtin "len") (NM X.w):=by
 intro pins s σ H xs us Q I r h;obtain⟨p,bs,rfl,hs,hz,q⟩:=h;obtain⟨u,rfl,rx⟩:=jE r;cases rx;obtain⟨⟨es,ep,t,T9,per⟩,_,_⟩:=I.hok p _ hs;have n:es.size=bs.length:=by have:=per.length_eq;simpa using this
 obtain⟨o,ho,hx,hd,hf,_⟩:=T9;have sz:ZL=16777216:=rfl;refine call_len_set ho hx hd hf (by lia) ?_;rw[n];exact⟨.int _,H,I.tok _,⟨_,rfl⟩,q⟩
def jg:List U->R U:=λus=>match us with
 | [.lst xs]=>match q_ xs with
  |some lA=>if (aP lA).length<2046 then .ok (.int (aP lA).length) else .stk
  |none=>.stk
 |_=>.stk
theorem Ac:mR K (λvs H Q=>Iz w K vs H λx H2=>NM w [x] H2 Q) .S jg:=λA H vs us z Q h mu e q=>by
 unfold jg at e;split at e
 ·rename_i xs;split at e
  ·rename_i lA e1;split at e
   ·rename_i hl;cases e;obtain⟨v,rfl,p⟩:=h.one;unfold Pk at p;obtain⟨a,ys,rfl,h1,l1,r1⟩:=p;obtain⟨e2,ne⟩:=j7 e1;subst e2;obtain⟨bs,rfl,e4,e5⟩:=j8 r1;refine⟨a,bs,rfl,fu.of h1,λb hb=>(e5 b hb).1,by rw[e4];exact hl,λl ky hn k2 sub=>?_⟩;have ln:ky.length=(aP lA).length:=by rw[←e4,←k2,ZF]
    refine⟨l,ky,rfl,bj,by lia,?_⟩;rw[ln];exact q _ _ (cR hn _) (show Rp K _ A _ _ from dN)
   ·cases e
  ·cases e
 ·cases e
theorem B3 (hc:X.calm=true)(hu:X.A.units+64<abo)(ha:DA X G [e] b1 true ga)(hg:Gl X "len")(hm:X.mg "len"=none)(Ms:Gl X "set")(Wa:X.mg "set"=none)
  (he:Z8 [e] X.env=(false,acD e X.env)::Z8 [] X.env:=by rfl) (sS:(abW lu (Z8 [] X.env)).any (·.1)=false:=by rfl)
  (T_:Z8 [.Call (.Name "set" p2) [e] [] lu] X.env=(false,acD (.Call (.Name "set" p2) [e] [] lu) X.env)::Z8 [] X.env:=by rfl) (Cz:(abW pos (Z8 [] X.env)).any (·.1)=false:=by rfl) :
  DE X G (.Call (.Name "len" p1) [.Call (.Name "set" p2) [e] [] lu] [] pos) b1 .S (iD jg ga):=⟨(sZ Fz hg hm gc (mm (gJ (wO hc hu) Ms Wa Hh ha.un (by decide) (by decide) he sS) pM T_) (by decide) (by decide) T_ Cz).to λ_ _ _ h=>sC (p:=true) (Ac (K:=X.K)) h⟩
end
end L2
namespace L2
abbrev cy (X:Cx)(scope:aei)(N:List Str)(Y:sx):Cx where
 prog:=X.prog
 w:=X.w
 K:=X.K
 mg:=X.mg
 base:=X.base
 A:=X.A
 N:=N
 s₀:=Y.s
 H₀:=Y.H
 env:=compEnvC scope Y.cl Y.C X.env
 outer:=X.stack
 stack:=X.stack
 ex:=Y.fp
 fn:=λx=>decide (scope.names.lookup x=some .cell)
 calm:=X.calm
 pn:=X.pn++Y.pins
 xe:=λ_ _=>False
def m7 (kC:aei)(NX:List Str)(scope:aei)(N:List Str)(js:List (Option Nat)):Bool:=
 decide (scope.kind=.function)&&scope.names.all (λy=>scope.names.all λz=>decide (y.1=z.1->y.2=z.2))&&scope.names.all (λy=>decide (y.2=.local->scope.names.lookup y.1=some .local))&&decide (js.length=N.length) &&
 (js.zip N).all (λp=>match p.1 with|none=>true|some j=>decide (NX[j]? = some p.2)&&decide (scope.names.lookup p.2=some .free)) &&
 scope.names.all (λy=>decide (y.2=.free->kC.names.lookup y.1=some .cell\/kC.names.lookup y.1=some .free))
structure lW (kC:aei)(NX:List Str)(scope:aei)(N:List Str)(js:List (Option Nat)):Prop where
 kind:scope.kind=.function
 apart:∀x k k',(x,k)∈scope.names->(x,k')∈scope.names->k≠k'->False
 loc:∀y∈scope.names,y.2=.local->scope.names.lookup y.1=some .local
 len:js.length=N.length
 cap:∀(i j:Nat) (x:Str),js[i]? = some (some j)->N[i]? = some x->NX[j]? = some x/\scope.names.lookup x=some .free
 free:∀x,(x,NameKind.free)∈scope.names->kC.names.lookup x=some .cell\/kC.names.lookup x=some .free
theorem m7.to {kC:aei}{NX:List Str}(h:m7 kC NX scope N js=true):lW kC NX scope N js:=by
 unfold m7 at h;simp only[Z7] at h;obtain⟨⟨⟨⟨⟨h1,h2⟩,h3⟩,h4⟩,h5⟩,h6⟩:=h;refine⟨of_decide_eq_true h1,λx k k' a b n=>n (of_decide_eq_true (aag.mp (aag.mp h2 _ a) _ b) rfl),λy hy=>of_decide_eq_true (aag.mp h3 y hy),of_decide_eq_true h4,λi j x e1 e2=>?_,λx hx=>of_decide_eq_true (aag.mp h6 (x,NameKind.free) hx) rfl⟩;have hz:(js.zip N)[i]? = some (some j,x):=by
  rw[List.getElem?_zip_eq_some];exact⟨e1,e2⟩
 have q:=aag.mp h5 _ (aa1 hz);simp only[Z7] at q;exact⟨of_decide_eq_true q.1,of_decide_eq_true q.2⟩
theorem p8:∀(names:List (Str×adw)) (n:Nat) (cl:List (Str×Z_)),abZ n names cl=abZ n names []++cl:=by
 have gen:∀(names:List (Str×adw)) (n:Nat) (a cl:List (Str×Z_)),abZ n names (a++cl)=abZ n names a++cl:=by
  intro names
  induction names with
  |nil=>intro n a cl;rfl
  |cons p r ih=>
   intro n a cl;obtain⟨x,k⟩:=p;unfold abZ;split
   ·exact ih (n+1) ((x,n)::a) cl
   ·exact ih n a cl
 exact λnames n cl=>gen names n [] cl
theorem nJ:∀(names:List (Str×adw)) (n:Nat) {x:Str} {c:Z_},(x,c)∈abZ n names []->(x,NameKind.cell)∈names
 | [],n,x,c,h=>by cases h
 | (y,k)::r,n,x,c,h=>by
  unfold abZ at h;split at h
  ·rename_i hk;rw[p8] at h;rcases aam.mp h with h|h
   ·exact ZK _ (nJ r _ h)
   ·rw[Z1] at h;cases h;rw[eq_of_beq hk];exact ZG
  ·exact ZK _ (nJ r _ h)
theorem IJ {a b:List (Str×Z_)}{c:Z_}(h:(a++b).lookup x=some c):a.lookup x=some c\/(a.lookup x=none/\b.lookup x=some c):=by
 induction a with
 |nil=>exact .inr ⟨rfl,h⟩
 |cons p a ih=>
  obtain⟨y,d⟩:=p;rw[ab6,aaA] at h;rw[aaA];cases q:x==y with
  |true=>rw[q] at h;exact .inl h
  |false=>rw[q] at h;exact ih h
theorem IK {a b:List (Str×Z_)}(h:a.lookup x=none):(a++b).lookup x=b.lookup x:=by
 induction a with
 |nil=>rfl
 |cons p a ih=>
  obtain⟨y,d⟩:=p;rw[aaA] at h;rw[ab6,aaA];cases q:x==y with
  |true=>rw[q] at h;cases h
  |false=>rw[q] at h;exact ih h
theorem xR {a b:List (Str×Z_)}{c:Z_}(h:a.lookup x=some c):(a++b).lookup x=some c:=by
 induction a with
 |nil=>cases h
 |cons p a ih=>
  obtain⟨y,d⟩:=p;rw[aaA] at h;rw[ab6,aaA];cases q:x==y with
  |true=>rw[q] at h;exact h
  |false=>rw[q] at h;exact ih h
theorem mG:∀(names:List (Str×adw)) (n:Nat) {x:Str},(x,NameKind.cell)∈names->∃c,(abZ n names []).lookup x=some c
 | [],n,x,h=>by cases h
 | (y,k)::r,n,x,h=>by
  unfold abZ;split
  ·rw[p8];rcases ZX.mp h with e|h
   ·have e1:x=y:=congrArg Prod.fst e;subst e1;cases q:(abZ (n+1) r []).lookup x with
    |some c=>exact⟨c,xR q⟩
    |none=>exact⟨n,(IK q).trans (by rw[aaA];simp)⟩
   ·obtain⟨c,q⟩:=mG r (n+1) h;exact⟨c,xR q⟩
  ·rename_i hk;rcases ZX.mp h with e|h
   ·cases e;exact absurd rfl hk
   ·exact mG r n h
theorem nK (h:(relabel scope env).names.lookup x=some .cell\/(relabel scope env).names.lookup x=some .free):(x,NameKind.free)∈scope.names\/(x,NameKind.cell)∈scope.names:=by
 have gen:∀k,(k=NameKind.cell\/k=NameKind.free)->(relabel scope env).names.lookup x=some k->(x,NameKind.free)∈scope.names\/(x,NameKind.cell)∈scope.names:=λk hk e=>by
  have hm:=aas e;obtain⟨⟨n,k0⟩,hy,q⟩:=ZO.mp hm;dsimp only at q;split at q
  ·rename_i c;simp only[Z7,beq_iff_eq] at c;cases q;obtain⟨⟨c1,_⟩,_⟩:=c;rw[c1] at hy;exact .inl hy
  ·cases q;rcases hk with hk|hk
   ·rw[hk] at hy;exact .inr hy
   ·rw[hk] at hy;exact .inl hy
 rcases h with h|h
 ·exact gen _ (.inl rfl) h
 ·exact gen _ (.inr rfl) h
theorem Lw {A:aaC}{globals:Z_}{cl:List (Str×Z_)}{outer:Env}{Q:Env->Z5->Prop}(h:Q (newEnv scope s.heap.objs.size globals (abZ (s.heap.objs.size+1) scope.names cl) qual none .none (some outer) builtinsNs) {s with heap:=pushCells (s.heap.push {cls:=.type "dict",data:=.dict #[]}) scope.names}) :
  aac M A (newFunctionEnv scope globals cl [] qual none .none (some outer)) Q E s:=by
 simp only[newFunctionEnv,Option.isSome_some,if_true];refine ZE (wpAny_alloc ?_);refine ZE (wpAny_layCells _ (λname kind cells=>by cases hkc:kind==NameKind.cell<;>simp[hkc]) _ _ _ _ ?_);rw[show ({s with heap:=s.heap.push {cls:=.type "dict",data:=.dict #[]}}:Z5).heap.objs.size=s.heap.objs.size+1 from abJ ..];exact ZJ h
theorem rh {E:ZR->Z5->Prop}{s2:Z5}{kC:aei}{pos:Pos}{g:sx->TG}{tt:sx->TT}{te:sx->TE}{J:It}{tn:Nat->acz->Prop}{P:List V->Hp->Prop}{cl:List (Str×Z_)}{RR:ZR->Z_->Result->Z5->Prop}(I:aL X pins σ H s2)(hc:X.calm=true)(T:yV X.prog X.w X.K tg J fp it tn)(nv:tn 0 s2.heap)(f2:∀b∈fp,rq X pins H b)(yG:∀Y:sx,PG (cy X scope N Y) tg (g Y)/\ER (cy X scope N Y) vg (tt Y)/\PE (cy X scope N Y) elt (te Y))(S:lW kC X.N scope N js)(mW:X.env.scope=kC)(c1:∀x c,cl.lookup x=some c->X.env.cells.lookup x=some c)(c2:∀x,(x,NameKind.free)∈scope.names->∃c,cl.lookup x=some c)(h:RH J js g tt te σ H P)(hR:∀(bE C:Z_) (ys:List V) (H':Hp) (s':Z5),aL X pins σ (cH H' bE (.lst ys)) s'->(∃m,s'.heap.Ns C m)->rq X pins (cH H' bE (.lst ys)) C->H' bE=none->P ys H'->RR (.ref bE) C (.ok .next) s') :
  aac (aan X.prog X.w) X.A (newList []) (λbE s₃=>aac (aan X.prog X.w) X.A (newFunctionEnv scope X.env.globals cl [] X.env.qual none .none (some X.env)) (λUc s₄=>
   codeAny (aan X.prog X.w) X.A (.compStart (.ListComp elt [⟨tg,iter,vg,0⟩] scope pos) 0 (.ref it) bE {Uc with scope:=relabel scope X.env}) (RR bE Uc.locals) s₄) E s₃) E s2:=by
 refine aav (Lw ?_);dsimp only;generalize hH2:s2.heap.push {cls:=.type "list",dict:=none,data:=.seq ([]:List ZR).toArray}=H2;generalize hh1:pushCells (H2.push {cls:=.type "dict",data:=.dict #[]}) scope.names=h₁;have Wd:h₁.Ns H2.objs.size (λ_=>none):=by rw[←hh1];exact (Heap.Ns.new H2 (.type "dict")).keeps (pushCells_keeps _ _)
 have Xx:∀b o,H2.get? b=some o->h₁.get? b=some o:=λb o e=>by rw[←hh1];exact pushCells_keeps _ _ b o (ZP _ e)
 have Xy:CellsOk h₁ (H2.objs.size+1) (abZ (H2.objs.size+1) scope.names []):=by
  have:=cellsFrom_ok scope.names (H2.push {cls:=.type "dict",data:=.dict #[]}) (H2.objs.size+1) [] ⟨λ_ _ hm=>(nomatch hm),List.Pairwise.nil⟩ (by rw[abJ];exact ZS _);rw[abJ,hh1] at this;exact this
 rw[p8 scope.names (H2.objs.size+1) cl];have hC:H2.objs.size=s2.heap.objs.size+1:=by rw[←hH2,abJ]
 have We:s2.heap.objs.size≠H2.objs.size:=by rw[hC];exact aah (Nat.lt_succ_self _)
 have vi:s2.heap.objs.size<=H2.objs.size:=by rw[hC];exact Nat.le_succ _
 have below:∀b,b<s2.heap.objs.size->b≠H2.objs.size/\b≠s2.heap.objs.size:=λb hb=>⟨by rw[hC];exact aah (acY hb),aah hb⟩;have old:∀b o,s2.heap.get? b=some o->h₁.get? b=some o:=λb o e=>Xx b o (hH2▸ZP _ e);have r_:h₁.PlainList s2.heap.objs.size #[]:=⟨_,Xx _ _ (hH2▸ZW _ rfl)⟩;have Ud:∀b∈fp,b<s2.heap.objs.size:=λb hb=>by
  obtain⟨o,e,_⟩:=T.obj _ _ nv b hb;exact Z4 e
 generalize hCg:H2.objs.size=C at *;generalize hAg:s2.heap.objs.size=bE at *;generalize hng:abZ (C+1) scope.names []=new at *;have QQ:∀x c,X.env.cells.lookup x=some c->c<bE:=λx c e=>by
  obtain⟨v,q⟩:=I.cell x c e;rw[←hAg];exact q.lt
 have nw:∀x c,new.lookup x=some c->h₁.IsCell c none/\C<c:=λx c e=>Xy.empty x c (aas e);have QR:∀x c,(new++cl).lookup x=some c->new.lookup x=some c\/(new.lookup x=none/\cl.lookup x=some c):=λx c e=>IJ e;have Wf:∀x,(x,NameKind.free)∈scope.names->(new++cl).lookup x=cl.lookup x:=λx hx=>by
  cases q:new.lookup x with
  |none=>exact IK q
  |some c=>
   exfalso;have m:=nJ scope.names (C+1) (by rw[hng];exact aas q);exact S.apart x _ _ hx m (by decide)
 have Wg:∀c,C<c->H c=none:=λc hc=>I.hok.fresh (by rw[hAg];exact ad2 (abw vi hc))
 let Y:sx:=⟨C,s2,H,fp,pins,new++cl⟩
 have ok:(cy X scope N Y).Ok:=by
  refine⟨I.ok.mod,S.kind,I.ok.glob,I.ok.blt,?_,?_,?_,?_,I.ok.hd,I.ok.frames,.inl rfl,λb hb=>⟨?_,λx c e=>?_⟩,I.bs,aaP I.ok.bsz I.sz,λb o e hb=>?_,λb hb hf=>?_,I.stack,I.stkFree⟩
  ·show s2.heap.objs.size<=C;rw[hAg];exact vi
  ·intro x y c e1 e2;rcases QR x c e1 with q1|⟨_,q1⟩<;>rcases QR y c e2 with q2|⟨_,q2⟩
   ·exact name_of_addr Xy.apart (aas q1) (aas q2)
   ·exact absurd (acG (nw x c q1).2 (aak (QQ y c (c1 y c q2)) vi)) (aaQ _)
   ·exact absurd (acG (nw y c q2).2 (aak (QQ x c (c1 x c q1)) vi)) (aaQ _)
   ·exact I.ok.inj x y c (c1 x c q1) (c1 y c q2)
  ·intro x hx;rcases nK hx with z|z
   ·obtain⟨c,e⟩:=c2 x z;exact⟨c,(Wf x z).trans e⟩
   ·obtain⟨c,e⟩:=mG scope.names (C+1) z;rw[hng] at e;exact⟨c,xR e⟩
  ·intro x c hf e;have Yz:scope.names.lookup x=some .cell:=of_decide_eq_true hf;obtain⟨c',e'⟩:=mG scope.names (C+1) (aas Yz);rw[hng] at e';have:c'=c:=by
    have z:=xR (b:=cl) e';have e0:(new++cl).lookup x=some c:=e;rw[e0] at z;exact (aab z).symm
   subst this;show s2.heap.objs.size<=_;rw[hAg];exact ad2 (abw vi (nw x _ e').2)
  ·exact (below b (Ud b hb)).1
  ·rcases QR x c e with q|⟨_,q⟩
   ·exact λz=>absurd (acG (nw x c q).2 (aak (by rw[z];exact Ud b hb) vi)) (aaQ _)
   ·exact (f2 b hb).2.2.2.2.1 x c (c1 x c q)
  ·rcases (f2 b hb).2.2.2.1 with z|z
   ·exact I.ok.noex b o e z
   ·exact absurd (aak (Z4 (I.ok.bs b o e).1) z) (aaQ _)
  ·rcases ZX.mp (I.stkSub b hf) with z|z
   ·exact (f2 b hb).2.1 z
   ·exact (f2 b hb).2.2.1 z
 have Og:∀p∈X.pn++pins,p.1<bE:=λp hp=>by rw[←hAg];exact Z4 (I.pin p hp).1
 have Zx:X.env.locals<bE:=by rw[←hAg];exact I.lt
 have Ue:∀b∈CF X.stack,b<bE:=λb hb=>by
  obtain⟨_,o,ho,_⟩:=I.stack.mem hb;rw[←hAg];exact Z4 ho
 have Ug:∀p∈X.pn++pins,p.1∉CF X.stack:=λp hp hf=>by
  rcases ZX.mp (I.stkSub _ hf) with z|z
  ·exact (I.pin p hp).2.2.1 z
  ·exact (I.pin p hp).2.2.2.1 z
 have Ez:H bE=none:=by rw[←hAg];exact I.hok.fresh (ZS _)
 have YA:H C=none:=I.hok.fresh (by rw[hAg];exact vi);have I4:∀tk:Nat,aL (cy X scope N Y) [] (lD js σ) H {s2 with heap:=h₁,toks:=tk}:=λtk=>by
  refine⟨ok,rfl,I.bare,Un.kept old,⟨_,Wd,λi x v e1 e2 e3=>?_⟩,λx c e=>?_,YA,λx c e=>(QR x c e).elim (λq=>Wg c (nw x c q).2) (λq=>I.freeC x c (c1 x c q.2)),λp hp=>?_,I.hok.kept old,?_⟩
  ·
   have Mv:(lD js σ)[i]? = some (some v):=e2;unfold lD at Mv;rw[ZT] at Mv;cases hj:js[i]? with
   |none=>rw[hj] at Mv;cases Mv
   |some o=>
    rw[hj] at Mv;cases o with
    |none=>cases Mv
    |some j=>
     have e4:(match σ[j]? with|some v=>v|none=>none)=some v:=aab Mv;obtain⟨nx,fr⟩:=S.cap i j x hj e1;have e5:σ[j]? = some (some v):=by
      cases q:σ[j]? with
      |none=>rw[q] at e4;cases e4
      |some z=>rw[q] at e4;rw[show z=some v from e4]
     obtain⟨m,hn,hl⟩:=I.loc;have kx:X.env.scope.names.lookup x=some .cell\/X.env.scope.names.lookup x=some .free:=by rw[mW];exact S.free x (aas fr)
     obtain⟨u,r,lk⟩:=hl j x v nx e5 (.inr kx);refine⟨u,r,.inr ⟨fw fr,?_⟩⟩;obtain⟨c,hcl⟩:=c2 x (aas fr);rcases lk with⟨k,_⟩|⟨k,c',e',z⟩
     ·have k':X.env.scope.names.lookup x=some .local:=k;rcases kx with q|q<;>· rw[q] at k';cases k'
     ·have:c'=c:=by
       have:=c1 x c hcl;rw[e'] at this;exact aab this
      subst this;obtain⟨o,ho,hd⟩:=z;exact⟨c',(Wf x (aas fr)).trans hcl,o,old _ _ ho,hd⟩
  ·rcases QR x c e with q|⟨_,q⟩
   ·exact⟨none,(nw x c q).1⟩
   ·obtain⟨v,o,ho,hd⟩:=I.cell x c (c1 x c q);exact⟨v,o,old _ _ ho,hd⟩
  ·have J9:p∈X.pn++pins:=by simpa using hp
   obtain⟨q1,q2,q3,q4,q5⟩:=I.pin p J9;exact⟨old _ _ q1,q2,λz=>absurd (Og p J9) (by rw[z];exact Nat.not_lt.mpr vi),Ug p J9,q5⟩
  ·show (lD js σ).length=N.length;unfold lD;rw[ZF];exact S.len
 obtain⟨hg,ht,he⟩:=yG Y;obtain⟨W,⟨m0,w0⟩,turn⟩:=h Y;have Wh:∀{H':Hp} {pl:List (Z_×Obj)},H' bE=none->(∀p∈pl,p.1≠bE)->rq (cy X scope N Y) pl H' bE:=λ{H' pl} hn hp=>by
  refine⟨hn,We,λz=>absurd (Ue _ z) (aaQ _),.inr (by show s2.heap.objs.size<=bE;rw[hAg];exact ZS _),λx c e=>(QR x c e).elim (λq=>ab9 (abw vi (nw x c q).2)) (λq=>aah (QQ x c (c1 x c q.2))),λp J9=>?_⟩;rcases aam.mp J9 with z|z
  ·exact aah (Og p z)
  ·exact hp p z
 have Wi:∀{H':Hp} {pl:List (Z_×Obj)},(∀b∈fp,H' b=none)->(∀p∈pl,p.1∉fp)->∀b∈fp,rq (cy X scope N Y) pl H' b:=λ{H' pl} hn hp b hb=>by
  refine⟨hn b hb,(below b (Ud b hb)).1,λz=>?_,.inl hb,λx c e=>(QR x c e).elim (λq z=>absurd (acG (nw x c q).2 (aak (by rw[z];exact Ud b hb) vi)) (aaQ _)) (λq=>(f2 b hb).2.2.2.2.1 x c (c1 x c q.2)),λp J9=>?_⟩
  ·rcases ZX.mp (I.stkSub b z) with q|q
   ·exact (f2 b hb).2.1 q
   ·exact (f2 b hb).2.2.1 q
  ·rcases aam.mp J9 with z|z
   ·exact (f2 b hb).2.2.2.2.2 p z
   ·exact λe=>hp p z (by rw[e];exact hb)
 have Xz:bE∉fp:=λz=>absurd (Ud bE z) (by intro q;rw[hAg] at *;exact aaQ _ q);have Wj:∀{i:Nat} {x:Str} {v:V},N[i]? = some x->(lD js σ)[i]? = some (some v)->∃u c o,aZ v u/\scope.names.lookup x=some .free/\cl.lookup x=some c/\s2.heap.get? c=some o/\o.data=.cell (some u):=λ{i x v} e1 e2=>by
  unfold lD at e2;rw[ZT] at e2;cases hj:js[i]? with
  |none=>rw[hj] at e2;cases e2
  |some o=>
   rw[hj] at e2;cases o with
   |none=>cases e2
   |some j=>
    have e4:(match σ[j]? with|some v=>v|none=>none)=some v:=aab e2;obtain⟨nx,fr⟩:=S.cap i j x hj e1;have e5:σ[j]? = some (some v):=by
     cases q:σ[j]? with
     |none=>rw[q] at e4;cases e4
     |some z=>rw[q] at e4;rw[show z=some v from e4]
    obtain⟨m,hn,hl⟩:=I.loc;have kx:X.env.scope.names.lookup x=some .cell\/X.env.scope.names.lookup x=some .free:=by rw[mW];exact S.free x (aas fr)
    obtain⟨u,r,lk⟩:=hl j x v nx e5 (.inr kx);obtain⟨c,hcl⟩:=c2 x (aas fr);rcases lk with⟨k,_⟩|⟨k,c',e',z⟩
    ·have k':X.env.scope.names.lookup x=some .local:=k;rcases kx with q|q<;>· rw[q] at k';cases k'
    ·have:c'=c:=by
      have:=c1 x c hcl;rw[e'] at this;exact aab this
     subst this;obtain⟨o,ho,hd⟩:=z;exact⟨u,c',o,r,fr,hcl,ho,hd⟩
 have Uh:∀{pl:List (Z_×Obj)} {σ':St} {H':Hp} {s':Z5},aL (cy X scope N Y) pl σ' H' s'->aL (cy X scope N Y) pl (lD js σ) H' s':=λ{pl σ' H' s'} K=>by
  refine⟨K.ok,K.os,K.bare,K.base,?_,K.cell,K.free,K.freeC,K.pin,K.hok,?_⟩
  ·obtain⟨m,hn,_⟩:=K.loc;refine⟨m,hn,λi x v e1 e2 e3=>?_⟩;obtain⟨u,c,o,r,fr,hcl,ho,hd⟩:=Wj e1 e2;refine⟨u,r,.inr ⟨fw fr,c,(Wf x (aas fr)).trans hcl,?_⟩⟩;obtain⟨sl,q⟩:=K.base.any ho (I.freeC x c (c1 x c hcl)) λz=>(f2 c z).2.2.2.2.1 x c (c1 x c hcl) rfl;exact⟨_,q,hd⟩
  ·show (lD js σ).length=N.length;unfold lD;rw[ZF];exact S.len
 have loop:∀tk:Nat,codeAny (aan X.prog X.w) X.A (.compLoop (.ListComp elt [⟨tg,iter,vg,0⟩] scope pos) 0 (.ref it) (.ref bE) (compEnvC scope (new++cl) C X.env)) (RR (.ref bE) C) {s2 with heap:=h₁,toks:=tk}:=by
  intro tk;refine lE (λn s'=>∃(i:Nat) (ys:List V) (aD:List ZR) (H':Hp),aL (cy X scope N Y) [] (lD js σ) H' s'/\tn i s'.heap/\(∀b∈fp,H' b=none)/\H' bE=none/\s'.heap.PlainList bE aD.toArray/\bg ys aD/\ys.length<=ZL/\W i n ys H') ?_ m0
   ⟨0,[],[],H,I4 tk,T.keep _ _ _ nv (λb hb o e=>old b o e),λb hb=>(f2 b hb).1,Ez,r_,.nil,abc _,w0⟩
  rintro n s3 ⟨i,ys,aD,H3,I3,QN,fr3,na3,⟨nn,ea⟩,rv3,hz3,w3⟩;have QS:∀p∈[(bE,({cls:=.type "list",data:=.seq aD.toArray nn}:Obj))],p.1∉fp:=λp hp=>by
   have e:p=(bE,({cls:=.type "list",data:=.seq aD.toArray nn}:Obj)):=by simpa using hp
   rw[e];exact Xz
  have Ip:aL (cy X scope N Y) [(bE,({cls:=.type "list",data:=.seq aD.toArray nn}:Obj))] (lD js σ) H3 s3:=I3.pins_of λp hp=>by
   have e:p=(bE,({cls:=.type "list",data:=.seq aD.toArray nn}:Obj)):=by simpa using hp
   subst e;exact⟨ea,na3,We,λz=>absurd (Ue _ z) (aaQ _),λv z=>by cases z⟩
  rcases turn i n ys H3 w3 with⟨stop,p⟩|⟨go,vU,Nx,hNx,step⟩
  ·refine aaM (T.done (cy X scope N Y) rfl rfl rfl hc i _ s3 _ H3 (λ_ _=>False) Ip (Wi fr3 QS) QN stop) (λr s4 YB=>?_) λ_ _ z=>z;obtain⟨hr,J4⟩:=YB;subst hr;have pa:=(J4.pin (bE,({cls:=.type "list",data:=.seq aD.toArray nn}:Obj)) (Z9 _ ZG)).1;have u:Un (CF X.stack) fp H (cH H3 bE (.lst ys)) s2.heap s4.heap:=
    ⟨J4.base.keep,J4.base.slot,λb o e nb hx=>by rw[a_ (below b (by rw[←hAg];exact Z4 e)).2];exact J4.base.free b o e nb hx,J4.base.there,
     λb xs e=>by rw[a_ (b8 e Ez)];exact J4.base.tups b xs e,λb o w' e=>by rw[a_ (b8 e Ez)];exact J4.base.frzs b o w' e,λb ps e=>by rw[a_ (b8 e Ez)];exact J4.base.tbls b ps e⟩
   have hok:lB X.prog X.w (cH H3 bE (.lst ys)) s4.heap:=λb o e=>by
    by_cases hb:b=bE
    ·subst hb;rw[bj] at e;cases e;exact⟨hz3,aD,nn,rv3,pa⟩
    ·rw[a_ hb] at e;refine (J4.hok b o e).stay (λ_ _ _ q=>q) (λc q=>?_) λc xs q=>?_
     ·rw[a_ (b8 q na3)];exact q
     ·rw[a_ (b8 q na3)];exact q
   have Wl:aL X pins σ (cH H3 bE (.lst ys)) s4:=I.call' (ch:=fp) J4.os u hok J4.bare λb hb=>⟨(f2 b hb).2.2.2.1,(f2 b hb).2.1,(f2 b hb).2.2.2.2.1,(f2 b hb).2.2.2.2.2⟩;have YC:∃m,s4.heap.Ns C m:=by obtain⟨m,hn,_⟩:=J4.loc;exact⟨m,hn⟩
   exact hR bE C ys H3 s4 Wl YC (I.fpOk (by rw[hAg];exact vi) (by rw[a_ (Ne.symm We)];exact J4.free)) na3 p
  ·refine aaM (T.item (cy X scope N Y) rfl rfl rfl hc i _ s3 _ H3 (λ_ _=>False) Ip (Wi fr3 QS) QN go) (λr s4 h4=>?_) λ_ _ z=>z;obtain⟨u,hr,h4⟩:=h4;subst hr;refine aaM h4 (λ_ s5 h5=>?_) λ_ _ z=>z;obtain⟨x,H5,I5,r5,y5,st5,fr5⟩:=h5;have VN:=I5.pinned (Wi fr5 QS) (T.obj _ _ st5);refine aaM (hg _ s5 _ H5 x u _ VN r5 (step x H5 y5)) (λ_ s6 h6=>?_) λ_ _ z=>z;obtain⟨σ6,H6,I6,q6⟩:=h6;refine aaM (ht _ s6 σ6 H6 _ I6 q6) (λb s7 h7=>?_) λ_ _ z=>z;obtain⟨H7,I7,q7⟩:=h7;have Ui:∀{H8:Hp} {σ8:St} {s8:Z5},aL (cy X scope N Y) ([(bE,({cls:=.type "list",data:=.seq aD.toArray nn}:Obj))]++sV fp s5.heap) σ8 H8 s8->
     s8.heap.get? bE=some ({cls:=.type "list",data:=.seq aD.toArray nn}:Obj)/\H8 bE=none/\(∀b∈fp,H8 b=none)/\(∀b∈fp,∀o,s5.heap.get? b=some o->s8.heap.get? b=some o):=λ{H8 σ8 s8} K=>by
    have q:=K.pin (bE,({cls:=.type "list",data:=.seq aD.toArray nn}:Obj)) (Z9 _ (aaE _ ZG));refine⟨q.1,q.2.1,λb hb=>?_,λb hb o e=>(K.pin (b,o) (Z9 _ (Z9 _ (kD hb e)))).1⟩;obtain⟨o,e,d⟩:=T.obj _ _ st5 b hb;exact (K.pin (b,o) (Z9 _ (Z9 _ (kD hb e)))).2.1
   have JV:∀{H8:Hp} {σ8:St} {s8:Z5} {pl:List (Z_×Obj)},aL (cy X scope N Y) pl σ8 H8 s8->aL (cy X scope N Y) [] σ8 H8 s8:=λK=>K.pins_of λp hp=>absurd hp (by simp);cases b with
   |false=>
    rw[hV (by simp)] at q7;obtain⟨m',hm,w7⟩:=hNx _ _ q7;obtain⟨p1,p2,p3,p4⟩:=Ui I7;exact⟨m',hm,i+1,ys,aD,H7,Uh (JV I7),T.keep _ _ _ st5 p4,p3,p2,⟨nn,p1⟩,rv3,hz3,w7⟩
   |true=>
    rw[hZ rfl] at q7;refine aaM (he _ s7 σ6 H7 _ I7 q7) (λv s8 h8=>?_) λ_ _ z=>z;obtain⟨y,H8,I8,r8,q8⟩:=h8;obtain⟨m',hm,w8⟩:=hNx _ _ q8;obtain⟨p1,p2,p3,p4⟩:=Ui I8;refine wpAny_list_append_plain (items:=aD.toArray) ⟨nn,p1⟩ (λh' YD sb=>?_) (by rw[ZZ,←rv3.length];exact hz3);obtain⟨f0,f1,f2',f3,f4,f5⟩:=Wh (H':=H8) (pl:=[]) p2 (by simp);have I9:aL (cy X scope N Y) [] σ6 H8 {s8 with heap:=h'}:=(JV I8).turned (t':=s8.toks) (λb o hb e=>(sb.2 b hb).trans e) f0 f1 f3 f4 f5;refine⟨m',hm,i+1,ys++[y],aD++[v],H8,Uh I9,T.keep _ _ _ st5 (λb hb o e=>(sb.2 b (λz=>Xz (z▸hb))).trans (p4 b hb o e)),p3,p2,?_,rv3.append (.cons r8 .nil),?_,w8⟩
    ·rw[show (aD++[v]).toArray=aD.toArray.push v from by simp];exact YD
    ·rw[Z3,abp];exact vU
 exact codeAny_compStart_list (loop _) (T.self _ _ _ _ _ (T.keep _ _ _ nv (λb hb o e=>old b o e)) (loop _))
theorem rj {kC:aei}(I:aL X pins σ H s)(S:lW kC X.N scope N js)(mW:X.env.scope=kC) :
  ∃cl:List (Str×Z_),closureFor scope X.env=pure cl/\(∀x c,cl.lookup x=some c->X.env.cells.lookup x=some c)/\∀x,(x,NameKind.free)∈scope.names->∃c,cl.lookup x=some c:=
 Bh λx hx=>I.ok.has x (by
  have:=S.free x hx;rw[←mW] at this;exact this)
theorem IL {pos:Pos}{g:sx->TG}{tt:sx->TT}{te:sx->TE}(kC:aei)(NX N:List Str)(js:List (Option Nat))(hc:X.calm=true)(hi:PI X tg iter wi)(yG:∀Y:sx,PG (cy X scope N Y) tg (g Y)/\ER (cy X scope N Y) vg (tt Y)/\PE (cy X scope N Y) elt (te Y))(mW:X.env.scope=kC:=by rfl)(Mw:X.N=NX:=by rfl)(hS:m7 kC NX scope N js=true:=by decide+kernel)(hs:∀x,abn iter X.env x=pure x:=by intro _;rfl):PE X (.ListComp elt [⟨tg,iter,vg,0⟩] scope pos) (Uq wi js g tt te):=by
 intro pins s σ H Q I h;have S:lW kC X.N scope N js:=by rw[Mw];exact m7.to hS
 obtain⟨cl,e1,e2,e3⟩:=rj I S mW;rw[eval_ListComp];refine wpAny_comprehension_free (use:=none) rfl hs e1 S.kind S.loc (fQ (hi pins s σ H _ I h) λv s1 h1=>fQ h1 λUM s2 h2=>?_);obtain⟨it,fp,tn,J,H2,e,I2,T,nv,f2,q⟩:=h2;subst e;refine rh (RR:=λbE C=>compPost (aan X.prog X.w) X.A X.xe none (EP X pins σ Q) bE C) I2 hc T nv f2 yG S mW e2 e3 q ?_;intro bE C ys H' s' I' ns fC na p;obtain⟨m,hn⟩:=ns;obtain⟨f0,f1,f2',f3,f4,f5⟩:=fC;exact⟨m,hn,λh' sb=>⟨.ref bE,_,I'.turned (t':=s'.toks) (λb o hb e=>(sb.2 b hb).trans e) f0 f1 f3 f4 f5,rfl,p bE na⟩⟩
theorem FA {pos jD lu:Pos}{g:sx->TG}{tt:sx->TT}{te:sx->TE}(kC:aei)(NX N:List Str)(js:List (Option Nat))(hN:X.N.Nodup)(hx:X.N[i]? = some x)(hl:Ka X.env.scope x)(hc:X.calm=true)(hi:PI X tg iter wi)(yG:∀Y:sx,PG (cy X scope N Y) tg (g Y)/\ER (cy X scope N Y) vg (tt Y)/\PE (cy X scope N Y) elt (te Y))(mW:X.env.scope=kC:=by rfl)(Mw:X.N=NX:=by rfl)(hS:m7 kC NX scope N js=true:=by decide+kernel)(hw:ac3 (.ListComp elt [⟨tg,iter,vg,0⟩] scope lu) (some (.Name x jD)) pos.line X.env=pure true:=by rfl)(hf:X.fn x=true\/X.env.scope.names.lookup x=some .local:=by first|exact .inl rfl|exact .inr rfl|assumption)(hs:∀x,abn iter X.env x=pure x:=by intro _;rfl) :
  PS X (.Assign [.Name x jD] (.ListComp elt [⟨tg,iter,vg,0⟩] scope lu) pos) (F7 (Uq wi js g tt te) (yU i)):=by
 intro pins s σ H D I h;have S:lW kC X.N scope N js:=by rw[Mw];exact m7.to hS
 obtain⟨cl,e1,e2,e3⟩:=rj I S mW;rw[exec_Assign_Name_used _ _ _ _ hw];refine ZE (wpAny_standAt (ZE ?_));show aac _ X.A (do let _ ←comprehension (.ListComp elt [⟨tg,iter,vg,0⟩] scope lu) scope X.env _ (newList []) false (acD iter X.env) (some (ad3 (.Name x jD) X.env))) _ _ s;refine ZE (aaM (wpAny_comprehension_free (use:=some (ad3 (.Name x jD) X.env)) (Q:=λ_ s'=>SP X pins D .next s') rfl hs e1 S.kind S.loc
  (fQ (hi pins s σ H _ I h) λv s1 h1=>fQ h1 λUM s2 h2=>?_)) (λ_ s' hq=>ZJ (ZJ hq)) λ_ _ e=>e)
 obtain⟨it,fp,tn,J,H2,e,I2,T,nv,f2,q⟩:=h2;subst e;refine rh (RR:=λbE C=>compPost (aan X.prog X.w) X.A X.xe (some (ad3 (.Name x jD) X.env)) (λ_ s'=>SP X pins D .next s') bE C) I2 hc T nv f2 yG S mW e2 e3 q ?_;intro bE C ys H' s' I' ns fC na p;obtain⟨m,hn⟩:=ns;obtain⟨f0,f1,f2',f3,f4,f5⟩:=fC;show aac _ X.A (ad3 (.Name x jD) X.env (.ref bE)) _ _ _;refine wpAny_assign_Name (vW I' hN hx hl (v:=.ref bE) rfl (λN7 YE YF=>?_) hf);obtain⟨a,sb,ha⟩:=YF;have aC:C≠a:=by
  rcases ha with ha|ha
  ·rw[ha];exact f1
  ·exact λz=>f4 x a ha z.symm
 refine⟨m,hn.sameBut sb aC,λh' YG=>⟨_,_,YE.turned (t':=N7.toks) (λb o hb e=>(YG.2 b hb).trans e) f0 f1 f3 f4 f5,?_⟩⟩;exact p bE na
end L2
namespace L2
section
variable {e:abH}{pos:Pos}{b1 b2 b3 p:Bool}{m me:Md}{gi:Ev->R (List U×Ev)}{gt:Ev->R (Bool×Ev)}{ge:Ev->R (U×Ev)}
theorem df (kC:aei)(NX N:List Str)(js:List (Option Nat))(hc:X.calm=true)(hi:DI X G tg iter b1 p gi)(yG:∀Y:sx,DG (cy X scope N Y) (vp G js) tg sg/\GO (cy X scope N Y) (vp G js) vg false gt/\DE (cy X scope N Y) (vp G js) elt false me ge)(hn:me≠.P:=by decide)(ok:pS js=true:=by rfl)(mW:X.env.scope=kC:=by rfl)(Mw:X.N=NX:=by rfl)(hS:m7 kC NX scope N js=true:=by decide+kernel)(hs:∀x,abn iter X.env x=pure x:=by intro _;rfl):DE X G (.ListComp elt [⟨tg,iter,vg,0⟩] scope pos) b1 .O (gE gi js sg gt ge):=⟨(IL kC NX N js hc hi.un (λY=>⟨(yG Y).1.un,(yG Y).2.1.un,(yG Y).2.2.un⟩) mW Mw hS hs).to λ_ _ _=>zi ok hn⟩
theorem Lx (kC:aei)(NX N:List Str)(js:List (Option Nat))(hc:X.calm=true)(hi:DI X G tg iter b1 false gi)(yG:∀Y:sx,DG (cy X scope N Y) (vp G js) tg sg/\GO (cy X scope N Y) (vp G js) vg b2 gt/\DE (cy X scope N Y) (vp G js) elt b3 me ge)(hn:me≠.P:=by decide)(ok:pS js=true:=by rfl)(mW:X.env.scope=kC:=by rfl)(Mw:X.N=NX:=by rfl)(hS:m7 kC NX scope N js=true:=by decide+kernel)(hs:∀x,abn iter X.env x=pure x:=by intro _;rfl):DE X G (.ListComp elt [⟨tg,iter,vg,0⟩] scope pos) true .O (KL G gi js sg gt ge):=⟨(IL kC NX N js hc hi.un (λY=>⟨(yG Y).1.un,(yG Y).2.1.un,(yG Y).2.2.un⟩) mW Mw hS hs).to λ_ _ _=>GN ok hn⟩
variable {jD lu:Pos}
theorem kM (kC:aei)(NX N:List Str)(js:List (Option Nat))(hN:X.N.Nodup)(hc:X.calm=true)(hi:DI X G tg iter b1 p gi)(yG:∀Y:sx,DG (cy X scope N Y) (vp G js) tg sg/\GO (cy X scope N Y) (vp G js) vg false gt/\DE (cy X scope N Y) (vp G js) elt false me ge)(hx:X.N[i]? = some x:=by rfl)(hl:Ka X.env.scope x:=by first|exact Or.inl rfl|exact Or.inr rfl)(c:G.is i=false:=by rfl)(hn:me≠.P:=by decide)(ok:pS js=true:=by rfl)(mW:X.env.scope=kC:=by rfl)(Mw:X.N=NX:=by rfl)(hS:m7 kC NX scope N js=true:=by decide+kernel)(hw:ac3 (.ListComp elt [⟨tg,iter,vg,0⟩] scope lu) (some (.Name x jD)) pos.line X.env=pure true:=by rfl)(hf:X.fn x=true\/X.env.scope.names.lookup x=some .local:=by first|exact .inl rfl|exact .inr rfl|assumption)(hs:∀x,abn iter X.env x=pure x:=by intro _;rfl):DS X G m (.Assign [.Name x jD] (.ListComp elt [⟨tg,iter,vg,0⟩] scope lu) pos) (bp i (gE gi js sg gt ge)):=⟨(FA kC NX N js hN hx hl hc hi.un (λY=>⟨(yG Y).1.un,(yG Y).2.1.un,(yG Y).2.2.un⟩) mW Mw hS hw hf hs).to λ_ _ _=>zh (b1:=b1) c (by decide) λ_ _ _=>zi ok hn⟩
end
end L2
namespace L2
open Hc.Zp
theorem Ad {prog:acC}{w:acs}{A:aaC}{E:ZR->Z5->Prop}{s:Z5}{Q:Option PySem.Fin×PUnit->Z5->Prop}{xs:Array ZR}{k:Int}{t:Tok}{j:Nat}(hj:∃t',xs[j]? = some (.int k t'))(hn:∀i,i<j->∃n t',xs[i]? = some (.int n t')/\n≠k)
  (q:Q (some (.done (.ret (.int j s.toks))),()) {s with toks:=s.toks+1}):∀(m i:Nat),i<=j->j<i+m->aac (aan prog w) A (forIn (List.range' i m) ((none,()):Option PySem.Fin×PUnit) λ(i:Nat) __s=>match xs[i]? with
      |some y=>do
       let __do_lift ←eqBool y (Value.int k t)
       if __do_lift=true then do
         let __do_lift ←retInt (i:Int)
         pure (ForInStep.done (some __do_lift,()))
        else pure (ForInStep.yield (none,()))
      |x=>pure (ForInStep.yield (none,()))) Q E s
 |0,i,h1,h2=>by lia
 |m+1,i,h1,h2=>by
  rw[List.range'_succ,adB];by_cases c:i=j
  ·subst c;obtain⟨t',e⟩:=hj;rw[e];refine ZE (ZE (aeb ?_));rw[hZ (by simp)];unfold retInt;refine ZE (ZE (wpAny_mkInt (ZJ (ZJ (ZJ q)))))
  ·obtain⟨n,t',e,ne⟩:=hn i (by lia);rw[e];refine ZE (ZE (aeb ?_));rw[hV (by simpa using ne)];exact ZJ (Ad hj hn q m (i+1) (by lia) (by lia))
theorem FC (a:Z_)(items:Array ZR)(n:Nat)(dd:Option Z_)(sl:Array (Option ZR))(k:Int)(t:Tok)(j:Nat)(hj:∃t',items[j]? = some (.int k t'))(hn:∀i,i<j->∃n t',items[i]? = some (.int n t')/\n≠k):Meets (Builtin.«tuple.index» ⟨[.ref a,.int k t],[]⟩) (λA R s=>s.heap.get? a=some {cls:=.type "tuple",dict:=dd,data:=.seq items n,slots:=sl}/\R (.ok (.ret (.int j s.toks))) {s with toks:=s.toks+1}):=
 .of_wp λprog w A R s h=>by
  obtain⟨hp,g,d,tk,os⟩:=s;obtain⟨hl,h⟩:=h;have lt:j<items.size:=by
   obtain⟨t',e⟩:=hj;exact (aaD.mp e).1
  unfold Builtin.«tuple.index»;simp only[Std.Legacy.Range.forIn_eq_forIn_range'];refine ZE (acM (a:=(Value.ref a,[Value.int k t])) rfl ?_);refine ZE ?_;unfold aez;wp_walk using abQ hl;refine Ad hj hn ?_ _ 0 (abc _) ?_
  ·exact ZJ ⟨_,rfl,h⟩
  ·simpa [Std.Legacy.Range.size] using lt
def FD (k:Int):Nat->List U->Option Nat
 |_,[]=>none
 |i,.int j::us=>if j=k then some i else FD k (i+1) us
 |_,_=>none
theorem D3 {k:Int}{j:Nat}:∀(us:List U) (i:Nat),FD k i us=some j->∃m,j=i+m/\us[m]? = some (.int k)/\∀q,q<m->∃n,us[q]? = some (.int n)/\n≠k
 | [],i,h=>by cases h
 |u::us,i,h=>by
  cases u with
  |int n=>
   have h:(if n=k then some i else FD k (i+1) us)=some j:=h;split at h
   ·rename_i c;cases h;exact⟨0,rfl,by rw[←c];rfl,λq hq=>by lia⟩
   ·rename_i c;obtain⟨m,rfl,h2,h3⟩:=D3 us (i+1) h;refine⟨m+1,by lia,h2,λq hq=>?_⟩;cases q with
    |zero=>exact⟨n,rfl,c⟩
    |succ q=>exact h3 q (by lia)
  |_=>cases h
def B4:U->U->R U:=λu w=>match u,w with
 | .tup us,.int k=>match FD k 0 us with
  |some i=>.ok (.int i)
  |none=>.stk
 |_,_=>.stk
def Vu:V->List V->Hp->VK->Prop:=λx vs H Q=>∃(a:Z_) (xs:List V) (k:Int) (j:Nat),x=.ref a/\H a=some (.tup xs)/\vs=[.int k]/\xs[j]? = some (.int k)/\(∀q,q<j->∃n,xs[q]? = some (.int n)/\n≠k)/\Q (.int j) H
def FE (g1:Ev->R (U×Ev))(ga:Ev->R (List U×Ev)):Ev->R (U×Ev):=λρ=>(g1 ρ).bind λx=>(ga x.2).bind λy=>match y.1 with
 | [w]=>(B4 x.1 w).bind λz=>.ok (z,y.2)
 |_=>.stk
section
variable {e e2:abH}{b1 b2:Bool}{m m1:Md}{g1:Ev->R (U×Ev)}{ga:Ev->R (List U×Ev)}{eQ cpos:Pos}
theorem IM:Kn X "tuple.index" Vu:=by
 intro pins s σ H x vs v us Q I rx rv h;obtain⟨a,xs,k,j,rfl,ha,rfl,h1,h2,q⟩:=h;cases rx;cases rv with
 |cons r rr=>
  cases rr;obtain⟨t,rfl⟩:=r;obtain⟨aD,rv,ht,hz⟩:=I.tuple (iC.of (K:=X.K) ha);obtain⟨⟨c,dd,dt,sl⟩,ho,hc,n,hd⟩:=id ht
  replace hc:c=.type "tuple":=hc
  replace hd:dt=.seq aD.toArray n:=hd
  subst hc hd;have el:∀(i:Nat) (n:Int),xs[i]? = some (.int n)->∃t',aD.toArray[i]? = some (.int n t'):=λi n e=>by
   obtain⟨u,h3,t',h4⟩:=rv.get e;exact⟨t',by rw[←h4];simpa using h3⟩
  exact aem ae5 ⟨_,ho,rfl⟩ PySem.F.entry_tuple_index (PySem.F.args_tuple_index_2 _ _) (FC a aD.toArray n dd sl k t j (el j k h1) λi hi=>by
   obtain⟨n,e1,e2⟩:=h2 i hi;obtain⟨t',e3⟩:=el i n e1;exact⟨n,t',e3,e2⟩) ⟨ho,.int j,H,I.tok _,⟨_,rfl⟩,q⟩
theorem IP (h:DE X G e b1 m1 g1)(ha:DA X G [e2] b2 false ga)(hn:m1≠.P:=by decide)(vc:acV e "index" X.env (acD e X.env)=acD e X.env:=by rfl)
  (Cu:((abW cpos (Z8 [e2] X.env)).all (λx=> !x.1)&&(backToKw cpos (adR [] X.env)).all (λx=>x.1.isSome)
   && decide ([e2].length+([]:List adu).length+(if ([]:List adu).isEmpty then 0 else 1)<30))=true:=by rfl)
  (vd:(eQ.endLine==cpos.line)=true:=by rfl) (hs:Z8 [e2] X.env=(false,acD e2 X.env)::Z8 [] X.env:=by rfl) (nY:(abW cpos (Z8 [] X.env)).any (·.1)=false:=by rfl) :
  DE X G (.Call (.Attribute e "index" eQ) [e2] [] cpos) (b1||b2) .S (FE g1 ga):=⟨(Gf PySem.F.plainAttrs_tuple ae5 PySem.F.type_tuple_index IM h.un ha.un vc Cu vd hs nY).to λσ H Q h00=>by
 obtain⟨Z,A,ρ,q,f⟩:=h00;refine⟨Z,A,ρ,q,?_⟩;obtain⟨⟨u,ρ1⟩,e1,f⟩:=f.bind;obtain⟨⟨ws,ρ2⟩,e2,f⟩:=f.bind;dsimp only at e2 f;split at f
 ·rename_i w;obtain⟨z,e3,f⟩:=f.bind;rw[e1];intro v H1 q1 x1 s1 vm;unfold B4 at e3;split at e3
  ·rename_i us k _;split at e3
   ·rename_i j hj;cases e3;obtain⟨j',ej,h1,h2⟩:=D3 us 0 hj;rw[abd] at ej;subst ej;have p:=vm.rp hn;have p':=p;unfold Rp at p';obtain⟨a,xs,rfl,ha,_,_⟩:=p';refine⟨.inr (.inl ⟨rfl,.inr ⟨xs,ha⟩⟩),Z,A,ρ1,q1,?_⟩;rw[e2];intro vs H2 q2 x2 s2 pD;have r:=pD.rps;unfold aH at r;obtain⟨v2,vr,rfl,r1,r2⟩:=r;unfold aH at r2;subst r2;have r3:=r1.pk.int;subst r3;have p2:=p.re q1.mu x2 λb z=>.inl z;unfold Rp at p2;obtain⟨a',xs',ea,A7,_,z2⟩:=p2;cases ea;have el:∀(i:Nat) (n:Int),us[i]? = some (.int n)->xs'[i]? = some (.int n):=λi n e=>by
     obtain⟨x,hx,px⟩:=z2.get e;rw[hx,px.pk.int]
    exact⟨a,xs',k,j,rfl,A7,rfl,el _ _ h1,λi hi=>by
     obtain⟨n,e4,e5⟩:=h2 i hi;exact⟨n,el _ _ e4,e5⟩,f _ H2 q2 (x1.trans x2) (two s1 s2) (AW.ofS dN)⟩
   ·cases e3
  ·cases e3
 ·exact f.elim⟩
end
def SW (i:Nat)(k v:U)(ρ:Ev):R Ev:=match k with
 | .int k=>match ρ[i]? with
  |some (some (.lst us))=>match Bf us.length k with
   |some j=>.ok (ρ.set i (some (.lst (us.set j v))))
   |none=>.stk
  |_=>.stk
 |_=>.stk
def Ly (i:Nat)(gk:Ev->R (U×Ev))(v:U)(ρ:Ev):R Ev:=if live ρ i=true then (gk ρ).bind λx=>SW i x.1 v x.2 else .stk
def SX (i:Nat)(ga:Ev->R (List U×Ev))(gk gl:Ev->R (U×Ev)):Ev->SR:=λρ=>SR.of (aV ga ρ) λx=>match x.1 with
 | .tup [u,w]=>SR.of (Ly i gk u x.2) λρ1=>SR.of (Ly i gl w ρ1) .nx
 |_=>.stk
section
variable {b2:Bool}{m2:Md}{gk:Ev->R (U×Ev)}
theorem Ae (q:cT X.K G Z A ρ σ H)(c:G.is i=true)(r:Rp X.K H A u v){ρ2:Ev}(e:Ly i gk u ρ=.ok ρ2){Q:St->Hp->Prop}(f:∀H',cT X.K G Z A ρ2 σ H'->fZ A H H'->Q σ H'):Rg (Kb i) (tD X.K G b2 m2 gk) ME v σ H Q:=by
 unfold Ly at e;split at e
 ·rename_i hl;obtain⟨u00,hu0⟩:=sF hl;obtain⟨a0,h0,_⟩:=q.own c hu0;cases e1:gk ρ with
  |stk=>rw[e1] at e;cases e
  |exc=>rw[e1] at e;cases e
  |ok y=>
   obtain⟨k,ρ1⟩:=y;rw[e1] at e;dsimp only[L2.R.bind] at e;refine⟨.ref a0,h0,Z,A,ρ,q,?_⟩;rw[e1];intro v2 H2 q2 x2 s2 pD;unfold SW at e;split at e
   ·rename_i kk;split at e
    ·rename_i us hu;split at e
     ·rename_i j hj;cases e;obtain⟨a0',k1,k2,_,_,k5⟩:=q2.own c hu;rw[h0] at k1;cases k1;obtain⟨xs,t1,t2,t3⟩:=k5;refine⟨a0,xs,kk,j,rfl,pD.pk.int,t1,by rw[←t3.length];exact hj,?_⟩;have em:∀b o,b≠a0->H2 b=some o->cH H2 a0 (.lst (xs.set j v)) b=some o:=λb o nb z=>by rw[a_ nb];exact z
      have ex:fZ A H2 (cH H2 a0 (.lst (xs.set j v))):=λb o nb z=>em b o (λy=>nb (y▸k2)) z;refine f _ (q2.put c hu h0 em ⟨xs.set j v,bj,by rw[aaJ];exact t2,?_⟩) (x2.trans ex);exact (t3.re q2.mu ex λb z=>.inl z).set j ((r.re q.mu x2 λb z=>.inl z).re q2.mu ex λb z=>.inl z)
     ·cases e
    ·cases e
   ·cases e
 ·cases e
end
section
variable {a b e2 e3:abH}{y:Str}{b1 b2 b3:Bool}{m m2 m3:Md}{g2 g3:Ev->R (U×Ev)}{ga:Ev->R (List U×Ev)}{pos p1 p2 p3 p4 pt pu:Pos}
theorem PY {ku:Nat}(hc:X.calm=true)(hA:DA X G [a,b] b1 false ga)(hk:DE X G e2 b2 m2 g2)(hl:DE X G e3 b3 m3 g3)(hN:X.N[i]? = some y:=by rfl)(hv:A8 X.env.scope y:=by first|exact Or.inl rfl|exact Or.inr (Or.inl rfl)|exact Or.inr (Or.inr rfl))(c:G.is i=true:=by rfl)(hd:(y==("__debug__":Str))=false:=by decide)(ly:(y==("__classdict__":Str))=false:=by decide)(ha:∀v,ad3 (.Subscript (.Name y p1) e2 p2) X.env v=(do
   let ov ←adi [v] (acD (.Name y p1) X.env)
   let iv ←adi [v,ov] (acD e2 X.env)
   standAt p2
   adi [v,ov,iv] (setItem ov iv v)
   release [v,ov,iv] []):=by intro _;rfl)(hb:∀v,ad3 (.Subscript (.Name y p3) e3 p4) X.env v=(do
   let ov ←adi [v] (acD (.Name y p3) X.env)
   let iv ←adi [v,ov] (acD e3 X.env)
   standAt p4
   adi [v,ov,iv] (setItem ov iv v)
   release [v,ov,iv] []):=by intro _;rfl)(hn:(abf [.Subscript (.Name y p1) e2 p2,.Subscript (.Name y p3) e3 p4] X.env).length=2:=by rfl)(TH:(abf [.Subscript (.Name y p1) e2 p2,.Subscript (.Name y p3) e3 p4] X.env).findIdx? (·.1)=none:=by rfl)(YH:(abf [.Subscript (.Name y p1) e2 p2,.Subscript (.Name y p3) e3 p4] X.env).map (·.2)=ad3 (.Subscript (.Name y p1) e2 p2) X.env::(abf [.Subscript (.Name y p3) e3 p4] X.env).map (·.2):=by rfl)(QT:(abf [.Subscript (.Name y p3) e3 p4] X.env).map (·.2)=ad3 (.Subscript (.Name y p3) e3 p4) X.env::(abf [] X.env).map (·.2):=by rfl)(hs:swapsWithSole [.Tuple [.Subscript (.Name y p1) e2 p2,.Subscript (.Name y p3) e3 p4] kt pt] (.Tuple [a,b] ku pu) pos.line X.env=pure false:=by rfl)(hw:swappedStores [.Tuple [.Subscript (.Name y p1) e2 p2,.Subscript (.Name y p3) e3 p4] kt pt] (.Tuple [a,b] ku pu) X.env=pure none:=by rfl)(h1:(abf [.Tuple [.Subscript (.Name y p1) e2 p2,.Subscript (.Name y p3) e3 p4] kt pt] X.env).map (·.2)=[ad3 (.Tuple [.Subscript (.Name y p1) e2 p2,.Subscript (.Name y p3) e3 p4] kt pt) X.env]:=by rfl) :
  DS X G m (.Assign [.Tuple [.Subscript (.Name y p1) e2 p2,.Subscript (.Name y p3) e3 p4] kt pt] (.Tuple [a,b] ku pu) pos) (SX i ga g2 g3):=
 ⟨(Ba (aX hA).un (F6 hc (sU (A_ (f6 hN hv hd ly) hk.un s9 ha) (sU (A_ (f6 hN hv hd ly) hl.un s9 hb) CJ QT) YH) hn TH) hs hw h1).to λD σ H h00=>by
 obtain⟨Z,A,ρ,q,f⟩:=h00;obtain⟨⟨t,ρ1⟩,e1,f⟩:=f.of;refine⟨Z,A,ρ,q,?_⟩;rw[e1];intro v H1 q1 x1 s1 vm;dsimp only at f;split at f
 ·rename_i u w;obtain⟨ρ2,e2,f⟩:=f.of;obtain⟨ρ3,e3,f⟩:=f.of;have p:=vm.rp (by decide);unfold Rp at p;obtain⟨at_,xs,rfl,h2,_,r⟩:=p;unfold aH at r;obtain⟨v1,vr,rfl,r1,r⟩:=r;unfold aH at r;obtain⟨v2,vr,rfl,r2,r⟩:=r;unfold aH at r;subst r;refine⟨at_,_,rfl,iC.of h2,rfl,v1,_,rfl,Ae q1 c r1 e2 λH2 q2 x2=>⟨v2,_,rfl,Ae q2 c (r2.re q1.mu x2 λb z=>.inl z) e3 λH3 q3 x3=>⟨rfl,f A σ H3 q3⟩⟩⟩
 ·exact f.elim⟩
end
end L2
noncomputable section
namespace Hc
open PySem L2
abbrev nN:Gm:=⟨[false,false,false],false,λ_=>False⟩
def fM:Ev->SR:=(aK (bp 0 (iD E1 (af (ag 0) au)))
 (aK (bp 1 (iD E1 (af (ag 1) au)))
 (aK (jQ (gB (aU (jC not) (ag 1) (gC (.int 0))))
 (aK (bp 2 (aU vB (ag 0) (ag 1)))
 (aK (bp 0 (ag 1))
 (bp 1 (ag 2)))) 1000000000000000)
 (bc (ag 0)))))
def bC:List U->R U:=cV .S 3 fM
abbrev Lz:Gm:=⟨[false,false,false],false,λ_=>False⟩
def xS:Ev->SR:=(aK (bp 2 (fy 2 bC (af (ag 0) (af (ag 1) au))))
 (aK (mS (gB (aU Uw (ag 1) (gC (.int 0)))) (bp 2 (Ut KR (ag 2))) bS)
 (bc (aV (af (aU mX (ag 0) (ag 2)) (af (aU mX (ag 1) (ag 2)) au))))))
def jH:List U->R U:=cV .S 3 xS
abbrev PZ:Gm:=⟨[false,false],false,λ_=>False⟩
def B5:Ev->SR:=(bc (fy 2 jH (af (aU jR (aU gH (aU cC (ag 0) (gC (.int 0))) (aU cC (ag 1) (gC (.int 1)))) (aU gH (aU cC (ag 1) (gC (.int 0))) (aU cC (ag 0) (gC (.int 1))))) (af (aU gH (aU cC (ag 0) (gC (.int 1))) (aU cC (ag 1) (gC (.int 1)))) au))))
def uG:List U->R U:=cV .S 2 B5
abbrev LA:Gm:=⟨[false,false,false],false,λ_=>False⟩
def uH:Ev->SR:=(bp 1 (fy 2 uG (af (ag 1) (af (ag 2) au))))
def xT:Ev->SR:=(aK (bp 1 (aV (af (gC (.int 0)) (af (gC (.int 1)) au))))
 (aK (gO (c_ (ag 0)) (ba 2)
 uH)
 (bc (ag 1))))
def kN:List U->R U:=cV .S 3 xT
abbrev rG:Gm:=⟨[false,false,false],false,λ_=>False⟩
def j_:Ev->SR:=(bp 1 (aU mX (aU gH (ag 1) (aU cC (ag 2) (gC (.int 1)))) (fy 2 bC (af (ag 1) (af (aU cC (ag 2) (gC (.int 1))) au)))))
def iF:Ev->SR:=(aK (bp 1 (gC (.int 1)))
 (aK (gO (c_ (ag 0)) (ba 2)
 j_)
 (bc (ag 1))))
def c6:List U->R U:=cV .S 3 iF
abbrev B6:Gm:=⟨[false,false],false,λ_=>False⟩
def nO:Ev->SR:=(bc (iD cW (af (gE (c_ (ag 1)) [none,some 0] (ba 0) cu (aU cC (ag 1) (ag 0))) au)))
def b9:List U->R U:=cV .S 2 nO
abbrev FF:Gm:=⟨[false,true,false],false,λ_=>False⟩
def p9:Ev->SR:=(aK (bp 1 O_)
 (aK (gO (c_ (ag 0)) (ba 2)
 (lK 1 (aU jR (jS 1 (ag 2) (gC (.int 0))) (gC (.int 1))) (ag 2)))
 (bc (ag 1))))
def ke:List U->R U:=cV .O 3 p9
abbrev IQ:Gm:=⟨[false,false,true,false,false,false,false,false],false,λ_=>False⟩
def p_:Ev->SR:=(aK (bp 7 (fy 2 b9 (af (ag 5) (af (ag 3) au))))
 (lK 2 (aU jR (jS 2 (ag 7) (gC (.int 0))) (aU gH (ag 6) (ag 4))) (ag 7)))
def mH:Ev->SR:=(gO (UE (ag 0)) (bz 2 (ay (ba 5) (ay (ba 6) bx)))
 p_)
def uJ:Ev->SR:=(aK (bp 2 O_)
 (aK (gO (UE (fy 1 ke (af (ag 1) au))) (bz 2 (ay (ba 3) (ay (ba 4) bx)))
 mH)
 (bc (ag 2))))
def lX:List U->R U:=cV .O 8 uJ
abbrev rH:Gm:=⟨[false,false,false,true,false,false,false],false,λ_=>False⟩
def dD:Ev->SR:=(aK (bp 6 (aU cC (ag 5) (ag 1)))
 (lK 3 (aU gH (aU cC (ag 6) (gC (.int 0))) (aU mX (ag 2) (aU cC (ag 6) (gC (.int 1))))) (ag 4)))
def iG:Ev->SR:=(aK (bp 2 (fy 1 c6 (af (gE (c_ (ag 0)) [none,none,some 1] (bz 2 (ay (ba 0) (ay (ba 1) bx))) cu (aU cC (ag 1) (ag 2))) au)))
 (aK (bp 3 O_)
 (aK (gO (c_ (ag 0)) (bz 2 (ay (ba 4) (ay (ba 5) bx)))
 dD)
 (vE 3 (bc (aV (af (ag 3) (af (ag 2) au))))))))
def dR:List U->R U:=cV .S 7 iG
abbrev B7:Gm:=⟨[false,true,false,false,true,false],false,λ_=>False⟩
def jI:Ev->SR:=(oz (gM "list" 1 sH (af (iD uE (af (ag 2) au)) au)))
def jJ:Ev->SR:=(oz (gM "list" 4 iS (af (aV (af (ag 5) (af (iD cW (af (gE (c_ (ag 0)) [none,none,some 5] (bz 2 (ay (ba 0) (ay (ba 1) bx))) cu (fy 2 jH (af (jS 0 (ag 2) (gC (.int 0))) (af (ag 1) au)))) au)) au))) au)))
def nP:Ev->SR:=(aK (bp 1 (fR au))
 (aK (gO (c_ (ag 0)) (bz 2 (ay (ba 2) (ay (ba 3) bx)))
 jI)
 (vE 1 (aK (bp 4 (fR au))
 (aK (gO (c_ (iD j9 (af (ag 1) au))) (ba 5)
 jJ)
 (bc (iD cW (af (ag 4) au))))))))
def fN:List U->R U:=cV .S 6 nP
abbrev LB:Gm:=⟨[false],false,λ_=>False⟩
def xU:Ev->SR:=(bc (fy 1 fN (af (gE (c_ (ag 0)) [none] (ba 0) cu (aV (af (QZ 0 1) (af (gC (.int 1)) au)))) au)))
def mI:List U->R U:=cV .S 1 xU
abbrev uK:Gm:=⟨[false],false,λ_=>False⟩
def jh:Ev->SR:=(bc (zv (af (iD gf (af (aU cC (aU cC (ag 0) (gC (.int 0))) (gC (.int 1))) au)) au)))
def cJ:List U->R U:=cV .O 1 jh
abbrev vH:Gm:=⟨[false,false,true,false,false],false,λ_=>False⟩
def gj:Ev->SR:=(aK (bp 4 (fy 2 dR (af (ag 0) (af (ag 3) au))))
 (oz (gM "list" 2 iS (af (aV (af (fy 2 lX (af (aU cC (ag 4) (gC (.int 0))) (af (ag 1) au))) (af (aU gH (aU cC (ag 4) (gC (.int 1))) (iD gf (af (ag 1) au))) au))) au))))
def jX:Ev->SR:=(aK (bp 2 (fR au))
 (aK (gO (c_ (fy 1 cJ (af (ag 0) au))) (ba 3)
 gj)
 (vE 2 (bc (fy 1 fN (af (ag 2) au))))))
def bB:List U->R U:=cV .S 5 jX
abbrev uL:Gm:=⟨[false,false,true,false,false,false],false,λ_=>False⟩
def ji:Ev->SR:=(aK (bp 2 O_)
 (aK (wX 2 (wW 2 (c_ (ag 0)) (bz 2 (ay (ba 3) (ay (ba 4) bx)))
 (aK (Ab 2 (ba 5) (fy 2 b9 (af (ag 3) (af (ag 1) au))))
 (aK (II 2 (ag 5) (wY 2 0 (ag 5)) bS)
 (IE 2 (B2 2 (uD 2) (ag 5)) (aV (af (ag 3) (af (ag 4) au))))))))
 (vE 2 (bc (gE (c_ (iD uB (af (ag 2) au))) [none,some 2] (ba 0) cu (aV (af (ag 0) (af (iD cW (af (aU zz (ag 1) (ag 0)) au)) au))))))))
def bU:List U->R U:=cV .O 6 ji
abbrev FG:Gm:=⟨[false],false,λ_=>False⟩
def qb:Ev->SR:=(bc (gE (c_ (fy 1 cJ (af (ag 0) au))) [none,some 0] (ba 0) cu (fy 1 kN (af (gE (c_ (ag 1)) [none,none,some 0] (bz 2 (ay (ba 0) (ay (ba 1) bx))) cu (aU cC (ag 1) (ag 2))) au))))
def i5:List U->R U:=cV .O 1 qb
abbrev rJ:Gm:=⟨[false,false],false,λ_=>False⟩
def iH:Ev->SR:=(bc (iD E3 (af (gE (c_ (fy 2 bU (af (ag 0) (af (ag 1) au)))) [none,none] (bz 2 (ay (ba 0) (ay (ba 1) bx))) cu (aU (jC id) (iD jg (af (fy 1 i5 (af (ag 1) au)) au)) (gC (.int 1)))) au)))
def b_:List U->R U:=cV .S 2 iH
abbrev uM:Gm:=⟨[false,false,false,false],false,λ_=>False⟩
def eL:Nat->Ev->SR
 |0=>λ_=>.stk
 |n+1=>let r_depth_in:=cV .S 4 (eL n)
  (aK (mS (gB (aU (jC id) (aU cC (ag 0) (gC (.int 0))) (gC (.str "end")))) (bc (gC (.int 0))) bS)
 (aK (mS (zg (gB (aU (jC id) (aU cC (ag 0) (gC (.int 0))) (gC (.str "mix")))) (gB (aU (AZ id) (aU cC (ag 0) (gC (.int 1))) (ag 1)))) (bp 2 (fR (af (aU cC (ag 0) (gC (.int 2))) au))) (mS (zg (gB (aU (jC id) (aU cC (ag 0) (gC (.int 0))) (gC (.str "look")))) (gB (aU (jC id) (iD gf (af (aU cC (ag 0) (gC (.int 1))) au)) (gC (.int 1))))) (bp 2 (gE (c_ (aU cC (ag 0) (gC (.int 2)))) [none] (ba 0) cu (aU cC (ag 0) (gC (.int 1))))) (bc (gC .non))))
 (aK (bp 3 (gE (c_ (ag 2)) [none,some 1] (ba 0) cu (fy 2 r_depth_in (af (ag 0) (af (ag 1) au)))))
 (aK (mS (gB (aU (AZ id) (gC .non) (ag 3))) (bc (gC .non)) bS)
 (bc (aU jR (gC (.int 1)) (iD wQ (af (ag 3) au))))))))
def bH (n:Nat):List U->R U:=cV .S 4 (eL n)
abbrev xV:Gm:=⟨[false,false,true,false,false,false,false],false,λ_=>False⟩
def dk:Ev->SR:=(aK (mS (zg (gB (aU Ux (aU cC (ag 6) (gC (.int 0))) (gC (.int 0)))) (gB (aU (AZ not) (aU cC (ag 2) (ag 5)) (aV (af (gC .non) (af (aU cC (ag 3) (ag 1)) au)))))) (bc (gC .non)) bS)
 (mS (gB (aU Ux (aU cC (ag 6) (gC (.int 0))) (gC (.int 0)))) (zm 2 (aU cC (ag 3) (ag 1)) (ag 5)) bS))
def cA:Ev->SR:=(gO (Ii (af (ag 4) au)) (bz 2 (ay (ba 5) (ay (ba 6) bx)))
 dk)
def iU:Ev->SR:=(aK (bp 2 (aU DX (fR (af (gC .non) au)) (iD gf (af (aU cC (aU cC (ag 0) (gC (.int 0))) (gC (.int 1))) au))))
 (aK (gO (c_ (ag 0)) (bz 2 (ay (ba 3) (ay (ba 4) bx)))
 cA)
 (bc (iD cW (af (ag 2) au)))))
def cv:List U->R U:=cV .S 7 iU
abbrev Af:Gm:=⟨[false,false,false,true,false,false,false],false,λ_=>False⟩
def dg:Ev->SR:=(aK (bp 5 (iD cW (af (gE (c_ (ag 1)) [none,some 4] (ba 0) cu (aU cC (ag 0) (ag 1))) au)))
 (aK (bp 6 (gE (kY (af (iD gf (af (ag 2) au)) au)) [none,some 5,some 3,some 2] (ba 0) (zg (gB (aU (RX id) (aU cC (ag 3) (ag 0)) (ag 1))) (gB (aU (AZ not) (ag 0) (ag 2)))) (ag 0)))
 (aK (mS (gB (aU (jC id) (iD gf (af (ag 6) au)) (gC (.int 0)))) (bc (gC .non)) bS)
 (oz (gM "list" 3 iS (af (aU cC (ag 6) (gC (.int 0))) au))))))
def lY:Ev->SR:=(aK (bp 2 (gE (kY (af (iD gf (af (aU cC (aU cC (ag 0) (gC (.int 0))) (gC (.int 0))) au)) au)) [none,some 0] (ba 0) cu (fy 2 cv (af (ag 1) (af (ag 0) au)))))
 (aK (bp 3 (fR au))
 (aK (gO (kY (af (iD gf (af (aU cC (ag 1) (gC (.int 0))) au)) au)) (ba 4)
 dg)
 (bc (aV (af (gC (.str "end")) (af (iD cW (af (ag 3) au)) au)))))))
def bV:List U->R U:=cV .S 7 lY
abbrev m9:Gm:=⟨[false,false,false,false,false,false,true,false,false,false],false,λ_=>False⟩
abbrev o9:Gm:=⟨[false,false,false,false,false,false],false,λ_=>False⟩
abbrev m_:Gm:=⟨[false,false,false,false,false,false,false],false,λ_=>False⟩
mutual
def dq:Nat->Ev->SR
 |0=>λ_=>.stk
 |n+1=>let r_plan_within:=cV .S 7 (cB n)
  (aK (mS (Bn (gB (fy 2 b_ (af (ag 0) (af (aV (af (ag 1) au)) au))))) (bc (gC .non)) bS)
 (aK (bp 5 (fy 2 bU (af (ag 0) (af (aV (af (ag 1) au)) au))))
 (aK (mS (gB (aU (jC id) (iD gf (af (ag 5) au)) (gC (.int 1)))) (bc (gC .non)) bS)
 (aK (bp 6 (fR au))
 (aK (gO (c_ (ag 5)) (bz 2 (ay (ba 7) (ay (ba 8) bx)))
 (aK (bp 9 (fy 4 r_plan_within (af (ag 8) (af (ag 2) (af (ag 3) (af (aU rE (ag 4) (gC (.int 1))) au))))))
 (aK (mS (gB (aU (j5 id) (ag 9) (gC .non))) (bc (gC .non)) bS)
 (oz (gM "list" 6 iS (af (aV (af (ag 7) (af (ag 9) au))) au))))))
 (bc (aV (af (gC (.str "look")) (af (aV (af (ag 1) au)) (af (iD cW (af (ag 6) au)) au))))))))))
def e_:Nat->Ev->SR
 |0=>λ_=>.stk
 |n+1=>let r_plan_within:=cV .S 7 (cB n)
  (aK (bp 5 (fy 4 r_plan_within (af (fy 2 bB (af (ag 0) (af (ag 1) au))) (af (ag 2) (af (ag 3) (af (aU rE (ag 4) (gC (.int 1))) au))))))
 (bc (Us (gB (aU (j5 id) (ag 5) (gC .non))) (gC .non) (aV (af (gC (.str "mix")) (af (ag 1) (af (ag 5) au)))))))
def cB:Nat->Ev->SR
 |0=>λ_=>.stk
 |n+1=>let r_look_within:=cV .S 10 (dq n)
  let r_mix_within:=cV .S 6 (e_ n)
  (aK (bp 4 (fy 2 bV (af (ag 0) (af (ag 1) au))))
 (aK (mS (MK (gB (aU (j5 not) (ag 4) (gC .non))) (gB (aU (jC id) (ag 3) (gC (.int 0))))) (bc (ag 4)) bS)
 (aK (gO (kY (af (iD gf (af (aU cC (aU cC (ag 0) (gC (.int 0))) (gC (.int 0))) au)) au)) (ba 5)
 (aK (bp 4 (fy 5 r_look_within (af (ag 0) (af (ag 5) (af (ag 1) (af (ag 2) (af (ag 3) au)))))))
 (mS (gB (aU (j5 not) (ag 4) (gC .non))) (bc (ag 4)) bS)))
 (aK (mS (gB (aU (jC id) (ag 3) (gC (.int 1)))) (bc (gC .non)) bS)
 (aK (gO (c_ (ag 2)) (ba 6)
 (aK (bp 4 (fy 5 r_mix_within (af (ag 0) (af (ag 6) (af (ag 1) (af (ag 2) (af (ag 3) au)))))))
 (mS (gB (aU (j5 not) (ag 4) (gC .non))) (bc (ag 4)) bS)))
 (bc (gC .non)))))))
end
def bq (n:Nat):List U->R U:=cV .S 10 (dq n)
def aO (n:Nat):List U->R U:=cV .S 6 (e_ n)
def ax (n:Nat):List U->R U:=cV .S 7 (cB n)
abbrev IS:Gm:=⟨[false,false,false,false,false,false,false],false,λ_=>False⟩
def i6:Ev->SR:=(aK (bp 6 (fy 4 (ax 20) (af (ag 3) (af (ag 4) (af (ag 1) (af (ag 5) au))))))
 (mS (gB (aU (j5 not) (ag 6) (gC .non))) (bc (ag 6)) bS))
def uN:Ev->SR:=(aK (bp 3 (fy 1 mI (af (gE (c_ (ag 0)) [none,none] (bz 2 (ay (ba 0) (ay (ba 1) bx))) cu (ag 0)) au)))
 (aK (bp 4 (gE (c_ (ag 0)) [none,none] (bz 2 (ay (ba 0) (ay (ba 1) bx))) cu (ag 1)))
 (aK (gO (kY (af (aU jR (ag 2) (gC (.int 1))) au)) (ba 5)
 i6)
 (bc (gC .non)))))
def cf:List U->R U:=cV .S 7 uN
abbrev uP:Gm:=⟨[false,false],false,λ_=>False⟩
def gm:Ev->SR:=(aK (mS (gB (aU Uw (ag 1) (iD gf (af (ag 0) au)))) (bc (aU cC (ag 0) (ag 1))) bS)
 (bc (gC (.int 0))))
def dE:List U->R U:=cV .S 2 gm
abbrev xW:Gm:=⟨[false,false,false],false,λ_=>False⟩
def iV:Ev->SR:=(aK (bp 2 (fy 2 dE (af (ag 0) (af (ag 1) au))))
 (aK (mS (gB (aU Vk (ag 2) (aU KQ (gC (.int 10)) (gC (.int 18))))) (bc (fR (af (aU rE (ag 2) (aU KQ (gC (.int 10)) (gC (.int 18)))) (af (gC (.bl true)) au)))) bS)
 (bc (fR (af (aU vB (ag 2) (gC (.int 2147483647))) (af (gC (.bl false)) au))))))
def gq:List U->R U:=cV .O 3 iV
abbrev Ag:Gm:=⟨[true,false,false,false],true,λ_=>False⟩
def jK:Ev->SR:=(aK (mS (gB (aU cC (ag 0) (gC (.int 1)))) (aK (bp 2 (aU vB (aU cC (ag 0) (gC (.int 0))) (ag 1)))
 (aK (zm 0 (aU mX (aU cC (ag 0) (gC (.int 0))) (ag 1)) (gC (.int 0)))
 (bc (ag 2)))) bS)
 (aK (zm 0 (aU vB (aU jR (aU gH (aU cC (ag 0) (gC (.int 0))) (gC (.int 48271))) (gC (.int 29))) (gC (.int 2147483647))) (gC (.int 0)))
 (aK (bp 3 (aU vB (aU jR (aU jR (aU gH (aU cC (ag 0) (gC (.int 0))) (aU cC (ag 0) (gC (.int 0)))) (aU gH (gC (.int 39373)) (aU cC (ag 0) (gC (.int 0))))) (gC (.int 7))) (gC (.int 2147483629))))
 (aK (bp 3 (aU vB (aU jR (aU gH (ag 3) (ag 3)) (aU gH (gC (.int 16807)) (ag 3))) (gC (.int 2147483587))))
 (bc (aU vB (aU mX (ag 3) (gC (.int 8))) (ag 1)))))))
def bW:List U->R (U×U):=Bs 4 jK
abbrev kO:Gm:=⟨[true,false,true],true,λ_=>False⟩
def kP:Ev->SR:=(aK (bp 2 (zv (af (ag 1) au)))
 (bc (iD cW (af (KL kO (kY (af (ag 1) au)) [none,some 2,some 0] (ba 0) cu (gM "list" 1 pV (af (FY 2 2 bW (af (iD gf (af (ag 1) au)) au)) au))) au))))
def cw:List U->R (U×U):=Bs 3 kP
abbrev Ah:Gm:=⟨[false,false],false,λ_=>False⟩
def lZ:Ev->SR:=(bc (iD cW (af (gE (c_ (ag 1)) [none,some 0] (ba 0) cu (aU cC (ag 1) (ag 0))) au)))
def fT:List U->R U:=cV .S 2 lZ
abbrev Ai:Gm:=⟨[false,true,false],false,λ_=>False⟩
def xX:Ev->SR:=(oz (gM "list" 1 iS (af (aU jR (aV (af (aU cC (ag 2) (gC (.int 0))) (af (aU rE (gC (.int 1)) (aU cC (ag 2) (gC (.int 0)))) (af (aU cC (ag 2) (gC (.int 1))) (af (aU rE (gC (.int 1)) (aU cC (ag 2) (gC (.int 1)))) au))))) (ag 0)) au)))
def rk:Ev->SR:=(aK (bp 1 (fR au))
 (aK (gO (c_ (fR (af (aV (af (gC (.int 0)) (af (gC (.int 0)) au))) (af (aV (af (gC (.int 0)) (af (gC (.int 1)) au))) (af (aV (af (gC (.int 1)) (af (gC (.int 0)) au))) (af (aV (af (gC (.int 1)) (af (gC (.int 1)) au))) au)))))) (ba 2)
 xX)
 (bc (ag 1))))
def fU:List U->R U:=cV .O 3 rk
abbrev uQ:Gm:=⟨[false,false,true,false,false],false,λ_=>False⟩
def rK:Ev->SR:=(SX 2 (af (ag 4) (af (ag 3) au)) (ag 3) (ag 4))
def l5:Ev->SR:=(aK (bp 2 (zv (af (ag 0) au)))
 (aK (gO (c_ (ag 1)) (bz 2 (ay (ba 3) (ay (ba 4) bx)))
 rK)
 (bc (iD cW (af (ag 2) au)))))
def gr:List U->R U:=cV .S 5 l5
abbrev B8:Gm:=⟨[false,false],false,λ_=>False⟩
def nQ:Ev->SR:=(bc (iD cW (af (gE (c_ (ag 1)) [none,some 0] (ba 0) cu (iD cW (af (gE (c_ (ag 1)) [none,some 1,some 0] (ba 0) cu (FE (ag 1) (af (aU cC (ag 2) (ag 0)) au))) au))) au)))
def gP:List U->R U:=cV .S 2 nQ
abbrev xY:Gm:=⟨[false,false,false],false,λ_=>False⟩
def kQ:Ev->SR:=(bc (gE (Lc (af (ag 0) (af (ag 1) au))) [none,none,some 2] (bz 2 (ay (ba 0) (ay (ba 1) bx))) cu (aV (af (fy 2 fT (af (ag 0) (af (ag 2) au))) (af (aV (af (ag 1) (af (aU rE (gC (.int 1)) (ag 1)) au))) au)))))
def dO:List U->R U:=cV .O 3 kQ
abbrev rL:Gm:=⟨[true,false,false,false,false,false,false,false,false,false,false],true,λ_=>False⟩
def gQ:Ev->SR:=(aK (bp 10 (fy 3 cf (af (ag 8) (af (ag 9) (af (aU jR (gC (.int 2)) (FY 2 0 bW (af (gC (.int 2)) au))) au)))))
 (mS (MK (gB (aU (j5 id) (ag 10) (gC .non))) (MK (gB (aU (jC not) (fy 2 (bH 20) (af (ag 10) (af (ag 9) au))) (gC (.int 2)))) (gB (aU (j5 not) (fy 3 cf (af (ag 8) (af (ag 9) (af (gC (.int 1)) au)))) (gC .non))))) (bc (gC (.bl false))) bS))
def iI:Ev->SR:=(aK (bp 5 (FY 2 0 cw (af (ag 1) au)))
 (aK (bp 6 (GW (af (ag 1) au)))
 (aK (bp 7 (fy 2 gP (af (ag 5) (af (aV (af (ag 6) (af (fy 2 gr (af (ag 1) (af (ag 4) au))) au))) au))))
 (aK (bp 8 (fy 3 dO (af (ag 2) (af (ag 3) (af (ag 5) au)))))
 (aK (gO (c_ (fR (af (aV (af (ag 7) au)) (af (aV (af (aV (af (ag 6) au)) (af (ag 7) au))) (af (aV (af (ag 7) (af (aV (af (ag 6) au)) au))) au))))) (ba 9)
 gQ)
 (bc (aU (j5 id) (fy 3 cf (af (ag 8) (af (aV (af (aV (af (ag 6) au)) au)) (af (gC (.int 2)) au)))) (gC .non))))))))
def cc:List U->R (U×U):=Bs 11 iI
abbrev uR:Gm:=⟨[true,false,false,false,false,false],true,λ_=>False⟩
def iJ:Ev->SR:=(aK (bp 5 (fy 3 cf (af (fy 3 dO (af (ag 1) (af (ag 4) (af (ag 2) au)))) (af (aV (af (aV (af (ag 2) au)) au)) (af (FY 2 0 bW (af (gC (.int 4)) au)) au)))))
 (mS (MK (gB (aU (j5 id) (ag 5) (gC .non))) (gB (aU (jC not) (aU cC (ag 5) (gC (.int 0))) (gC (.str "end"))))) (bc (gC (.bl false))) bS))
def iK:Ev->SR:=(gO (c_ (fR (af (gE (c_ (ag 1)) [none,some 3] (ba 0) cu (aU cC (ag 0) (aU gH (gC (.int 2)) (ag 1)))) (af (gE (c_ (ag 1)) [none,some 3] (ba 0) cu (aU cC (ag 0) (aU jR (aU gH (gC (.int 2)) (ag 1)) (gC (.int 1))))) au)))) (ba 4)
 iJ)
def jj:Ev->SR:=(aK (bp 2 (FY 2 0 cw (af (gC (.int 4)) au)))
 (aK (gO (kY (af (gC (.int 2)) au)) (ba 3)
 iK)
 (bc (gC (.bl true)))))
def gu:List U->R (U×U):=Bs 6 jj
abbrev SY:Gm:=⟨[false,false,true],false,λ_=>False⟩
def xZ:Ev->SR:=(aK (bp 2 (fy 2 gq (af (ag 0) (af (ag 1) au))))
 (aK (mS (Bn (gB (FY 5 2 cc (af (gC (.int 4)) (af (fy 1 fU (af (aV au) au)) (af (fR (af (gC (.int 0)) (af (gC (.int 1)) (af (gC (.int 1)) (af (gC (.int 0)) au))))) (af (fR (af (aV (af (gC (.int 0)) (af (gC (.int 1)) au))) (af (aV (af (gC (.int 2)) (af (gC (.int 3)) au))) au))) au))))))) (bc (gC (.bl false))) bS)
 (aK (mS (Bn (gB (FY 5 2 cc (af (gC (.int 6)) (af (fy 1 fU (af (aV (af (gC (.int 0)) (af (gC (.int 1)) au))) au)) (af (fR (af (gC (.int 0)) (af (gC (.int 0)) (af (gC (.int 0)) (af (gC (.int 1)) au))))) (af (fR (af (aV (af (gC (.int 0)) (af (gC (.int 1)) au))) (af (aV (af (gC (.int 4)) (af (gC (.int 2)) au))) (af (aV (af (gC (.int 5)) (af (gC (.int 3)) au))) au)))) au))))))) (bc (gC (.bl false))) bS)
 (mS (Bn (gB (FY 2 2 gu (af (fy 1 fU (af (aV au) au)) au)))) (bc (gC (.bl false))) bS))))
def IT:Ev->SR:=(aK (gO (kY (af (iD C2 (af (gC (.int 1)) (af (iD C3 (af (iD gf (af (ag 0) au)) (af (gC (.int 2)) au))) au))) au)) (ba 1)
 xZ)
 (bc (gC (.bl true))))
def Aj:List U->R U:=cV .S 3 IT
end Hc
end
namespace Hc
open L2
abbrev cE:adh:=top 1
abbrev qc:adh:=top 2
abbrev wZ:adh:=top 3
abbrev qd:adh:=top 4
abbrev d9:adh:=top 5
abbrev jk:adh:=top 7
abbrev kg:adh:=top 9
abbrev mJ:adh:=top 10
abbrev du:adh:=top 12
abbrev jl:adh:=top 13
abbrev nR:adh:=top 14
abbrev fb:adh:=top 15
abbrev fV:adh:=top 16
abbrev dP:adh:=top 17
abbrev jL:adh:=top 18
abbrev dQ:adh:=top 19
abbrev gw:adh:=top 21
abbrev gR:adh:=top 22
abbrev fc:adh:=top 23
abbrev eM:adh:=top 24
abbrev fO:adh:=top 25
abbrev eN:adh:=top 26
abbrev jM:adh:=top 27
abbrev gT:adh:=top 29
abbrev i7:adh:=top 30
abbrev kh:adh:=top 31
abbrev gU:adh:=top 32
abbrev jn:adh:=top 33
abbrev ki:adh:=top 34
abbrev fW:adh:=top 35
abbrev jN:adh:=top 36
abbrev gW:adh:=top 37
abbrev fX:adh:=top 38
abbrev eO:adh:=top 39
abbrev Ak:adh:=top 40
abbrev Bd (x:Str)(ps:List Str)(s:adh):Prop:=∀(kV pK pm:ZR) (an:Option Z_) (cQ ct:ZR) (us:List ZR),us.length=ps.length->bindArgs (abA x x (gb s) (cP s) (ao s) .none kV pK pm an cQ ct) ⟨us,[]⟩=pure (ps.zip us)
theorem l6 {P:List Str}{sc:aei}(a:sc.kind=.function:=by rfl)(b:sc.isCoroutine=false:=by rfl)(c:sc.isGenerator=false:=by rfl)(d:N.Nodup:=by decide+kernel)(e:N.take P.length=P:=by rfl)(f:∀x∈P,sc.names.lookup x=some .local\/sc.names.lookup x=some .cell:=by decide+kernel)(g:∀y∈sc.names,y.2≠.free:=by decide+kernel):aN N P sc:=⟨a,b,c,d,e,f,g⟩
theorem rm {A:aaC}(r:f9 k A)(h:j<=k:=by first|decide|lia):f9 j A:=r.mono h
theorem bJ:aN ["one","other","rest"] ["one","other"] (ao cE):=l6
theorem mU:Bd "greatest_divisor" ["one","other"] cE:=λ_ _ _ _ _ _ us hl=>match us,hl with|[_,_],_=>rfl
theorem uS:aN ["top","bottom","divisor"] ["top","bottom"] (ao qc):=l6
theorem IU:Bd "ratio" ["top","bottom"] qc:=λ_ _ _ _ _ _ us hl=>match us,hl with|[_,_],_=>rfl
theorem LC:aN ["one","other"] ["one","other"] (ao wZ):=l6
theorem LD:Bd "plus" ["one","other"] wZ:=λ_ _ _ _ _ _ us hl=>match us,hl with|[_,_],_=>rfl
theorem o_:aN ["some","result","fraction"] ["some"] (ao qd):=l6
theorem IV:Bd "total" ["some"] qd:=λ_ _ _ _ _ _ us hl=>match us,hl with|[_],_=>rfl
theorem ff:aN ["some","bottom","fraction"] ["some"] (ao d9):=l6
theorem qe:Bd "common_bottom" ["some"] d9:=λ_ _ _ _ _ _ us hl=>match us,hl with|[_],_=>rfl
theorem Al:aN ["row","places"] ["row","places"] (ao jk):=l6
theorem Am:Bd "cards_at" ["row","places"] jk:=λ_ _ _ _ _ _ us hl=>match us,hl with|[_,_],_=>rfl
theorem nU:aN ["shuffle","often","order"] ["shuffle"] (ao kg):=l6
theorem B9:Bd "counted" ["shuffle"] kg:=λ_ _ _ _ _ _ us hl=>match us,hl with|[_],_=>rfl
theorem gX:aN ["weights","shuffle","gathered","order","often","row","weight","changed"] ["weights","shuffle"] (ao mJ):=l6
theorem FH:Bd "spread" ["weights","shuffle"] mJ:=λ_ _ _ _ _ _ us hl=>match us,hl with|[_,_],_=>rfl
theorem cF:aN ["state","number","bottom","whole","row","weights","weight"] ["state","number"] (ao du):=l6
theorem qf:Bd "whole_weights" ["state","number"] du:=λ_ _ _ _ _ _ us hl=>match us,hl with|[_,_],_=>rfl
theorem fY:aN ["deals","rows","whole","bottom","state","row"] ["deals"] (ao jl):=l6
theorem An:Bd "state_of" ["deals"] jl:=λ_ _ _ _ _ _ us hl=>match us,hl with|[_],_=>rfl
theorem IW:aN ["rows"] ["rows"] (ao nR):=l6
theorem IX:Bd "begun" ["rows"] nR:=λ_ _ _ _ _ _ us hl=>match us,hl with|[_],_=>rfl
theorem rM:aN ["state"] ["state"] (ao fb):=l6
theorem rN:Bd "deal_numbers" ["state"] fb:=λ_ _ _ _ _ _ us hl=>match us,hl with|[_],_=>rfl
theorem gx:aN ["state","shuffle","mixed","number","deal"] ["state","shuffle"] (ao fV):=l6
theorem uT:Bd "mixed_state" ["state","shuffle"] fV:=λ_ _ _ _ _ _ us hl=>match us,hl with|[_,_],_=>rfl
theorem dW:aN ["state","places","parts","row","weights","seen"] ["state","places"] (ao dP):=l6
theorem rO:Bd "looked_state" ["state","places"] dP:=λ_ _ _ _ _ _ us hl=>match us,hl with|[_,_],_=>rfl
theorem B_:aN ["state"] ["state"] (ao jL):=l6
theorem Ca:Bd "sums_of" ["state"] jL:=λ_ _ _ _ _ _ us hl=>match us,hl with|[_],_=>rfl
theorem qg:aN ["state","places"] ["state","places"] (ao dQ):=l6
theorem qh:Bd "is_quiet_look" ["state","places"] dQ:=λ_ _ _ _ _ _ us hl=>match us,hl with|[_,_],_=>rfl
theorem iq:aN ["plan","menu","inner","depths"] ["plan","menu"] (ao gw):=l6
theorem rl:Bd "depth_in" ["plan","menu"] gw:=λ_ _ _ _ _ _ us hl=>match us,hl with|[_,_],_=>rfl
theorem d_:aN ["state","place","told","row","weights","number","weight"] ["state","place"] (ao gR):=l6
theorem vI:Bd "cards_told" ["state","place"] gR:=λ_ _ _ _ _ _ us hl=>match us,hl with|[_,_],_=>rfl
theorem fg:aN ["state","dues","told","places","number","due","fitting"] ["state","dues"] (ao fc):=l6
theorem x8:Bd "right_end" ["state","dues"] fc:=λ_ _ _ _ _ _ us hl=>match us,hl with|[_,_],_=>rfl
theorem cK:aN ["state","place","dues","menu","depth","parts","ways","seen","part","plan"] ["state","place","dues","menu","depth"] (ao eM):=l6
theorem l7:Bd "look_within" ["state","place","dues","menu","depth"] eM:=λ_ _ _ _ _ _ us hl=>match us,hl with|[_,_,_,_,_],_=>rfl
theorem jY:aN ["state","shuffle","dues","menu","depth","plan"] ["state","shuffle","dues","menu","depth"] (ao fO):=l6
theorem ng:Bd "mix_within" ["state","shuffle","dues","menu","depth"] fO:=λ_ _ _ _ _ _ us hl=>match us,hl with|[_,_,_,_,_],_=>rfl
theorem cN:aN ["state","dues","menu","depth","plan","place","shuffle"] ["state","dues","menu","depth"] (ao eN):=l6
theorem l8:Bd "plan_within" ["state","dues","menu","depth"] eN:=λ_ _ _ _ _ _ us hl=>match us,hl with|[_,_,_,_],_=>rfl
theorem kj:aN ["deals","menu","most","state","dues","depth","plan"] ["deals","menu","most"] (ao jM):=l6
theorem FI:Bd "fewest" ["deals","menu","most"] jM:=λ_ _ _ _ _ _ us hl=>match us,hl with|[_,_,_],_=>rfl
theorem rP:aN ["script","k"] ["script","k"] (ao gT):=l6
theorem rQ:Bd "_law_cell_at" ["script","k"] gT:=λ_ _ _ _ _ _ us hl=>match us,hl with|[_,_],_=>rfl
theorem nh:aN ["script","k","cell"] ["script","k"] (ao i7):=l6
theorem vJ:Bd "_law_state" ["script","k"] i7:=λ_ _ _ _ _ _ us hl=>match us,hl with|[_,_],_=>rfl
theorem iW:aN ["state","many","found","mixed"] ["state","many"] (ao kh):=l6
theorem x9:Bd "_law_take" ["state","many"] kh:=λ_ _ _ _ _ _ us hl=>match us,hl with|[_,_],_=>rfl
theorem nj:aN ["state","many","left"] ["state","many"] (ao gU):=l6
theorem vK:Bd "_law_order" ["state","many"] gU:=λ_ _ _ _ _ _ us hl=>match us,hl with|[_,_],_=>rfl
theorem x_:aN ["row","order"] ["row","order"] (ao jn):=l6
theorem ya:Bd "_law_laid" ["row","order"] jn:=λ_ _ _ _ _ _ us hl=>match us,hl with|[_,_],_=>rfl
theorem kR:aN ["free","rows","bits"] ["free"] (ao ki):=l6
theorem yb:Bd "_law_rows" ["free"] ki:=λ_ _ _ _ _ _ us hl=>match us,hl with|[_],_=>rfl
theorem fH:aN ["many","pairs","found","one","other"] ["many","pairs"] (ao fW):=l6
theorem rR:Bd "_law_swapped" ["many","pairs"] fW:=λ_ _ _ _ _ _ us hl=>match us,hl with|[_,_],_=>rfl
theorem Ao:aN ["order","shuffle"] ["order","shuffle"] (ao jN):=l6
theorem Ap:Bd "_law_led" ["order","shuffle"] jN:=λ_ _ _ _ _ _ us hl=>match us,hl with|[_,_],_=>rfl
theorem vL:aN ["rows","dues","order"] ["rows","dues","order"] (ao gW):=l6
theorem vM:Bd "_law_deals" ["rows","dues","order"] gW:=λ_ _ _ _ _ _ us hl=>match us,hl with|[_,_,_],_=>rfl
theorem bP:aN ["state","many","rows","dues","swaps","order","stays","shuffle","deals","menu","plan"] ["state","many","rows","dues","swaps"] (ao fX):=l6
theorem qi:Bd "_law_two_deep" ["state","many","rows","dues","swaps"] fX:=λ_ _ _ _ _ _ us hl=>match us,hl with|[_,_,_,_,_],_=>rfl
theorem dX:aN ["state","rows","order","at","dues","plan"] ["state","rows"] (ao eO):=l6
theorem rS:Bd "_law_no_step" ["state","rows"] eO:=λ_ _ _ _ _ _ us hl=>match us,hl with|[_,_],_=>rfl
theorem Cb:aN ["script","k","state"] ["script"] (ao Ak):=l6
structure Txt (mg:Str->Option ZR):Prop where
 zgq:mg "abs"=none
 ziq:mg "all"=none
 zaq:mg "enumerate"=none
 zkq:mg "len"=none
 zeq:mg "list"=none
 zlq:mg "max"=none
 zjq:mg "min"=none
 zdq:mg "range"=none
 zfq:mg "set"=none
 zbq:mg "sorted"=none
 zcq:mg "tuple"=none
 zhq:mg "zip"=none
end Hc
namespace Hc
open L2
section
variable {base:acz}
theorem mV (T:Txt mg)  (cO:Df K mg "greatest_divisor" cE):Fn P w K mg base "greatest_divisor" 1 ["one","other"] (eK K 2 bC .S):=by
 refine Df.fnD (N:=["one","other","rest"]) (ps:=["one","other"]) (st:=cE) (k:=0) nN .S fM cO bJ mU rfl (by decide) ?_;intro f cQ A outer s0 H E hr;have hu:=hr.units;have jz:=bG hr;exact (ak (bh (i:=0) bJ.nd (bD yW C1 (by rfl) T.zgq GA (ae (aj 0) ai)))
 (ak (bh (i:=1) bJ.nd (bD yW C1 (by rfl) T.zgq GA (ae (aj 1) ai)))
 (ak (GK aap (bF Gd xP (aj 1) ar (bK _))
 (ak (bh (i:=2) bJ.nd (bo nB kG (aj 0) (aj 1)))
 (ak (bh (i:=0) bJ.nd (aj 1))
 (aw (bh (i:=1) bJ.nd (aj 2))))))
 (aw (aT (aj 0))))))
theorem IY (T:Txt mg)(bR:Fn P w K mg base "greatest_divisor" 1 ["one","other"] (eK K 2 bC .S))(pE:Df K mg "ratio" qc):Fn P w K mg base "ratio" 2 ["top","bottom"] (eK K 2 jH .S):=by
 refine Df.fnD (N:=["top","bottom","divisor"]) (ps:=["top","bottom"]) (st:=qc) (k:=1) Lz .S xS pE uS IU rfl (by decide) ?_;intro f cQ A outer s0 H E hr;have hu:=hr.units;have jz:=bG hr;exact (ak (bh (i:=2) uS.nd (aG bR (rm hr) (ae (aj 0) (ae (aj 1) ai))))
 (ak (eD (bF MA GX (aj 1) ar (bK _)) (aw (bh (i:=2) uS.nd (RQ OD KS (aj 2)))) bM)
 (aw (aT (aX (ae (bo i4 j4 (aj 0) (aj 2)) (ae (bo i4 j4 (aj 1) (aj 2)) ai)))))))
theorem LF (T:Txt mg)(mO:Fn P w K mg base "ratio" 2 ["top","bottom"] (eK K 2 jH .S))(vj:Df K mg "plus" wZ):Fn P w K mg base "plus" 3 ["one","other"] (eK K 2 uG .S):=by
 refine Df.fnD (N:=["one","other"]) (ps:=["one","other"]) (st:=wZ) (k:=2) PZ .S B5 vj LC LD rfl (by decide) ?_;intro f cQ A outer s0 H E hr;have hu:=hr.units;have jz:=bG hr;exact (aw (aT (aG mO (rm hr) (ae (bo fF fG (bo f7 eE (aW aI aJ (aj 0) ar (λ_ _=>rfl)) (aW aI aJ (aj 1) ar (λ_ _=>rfl))) (bo f7 eE (aW aI aJ (aj 1) ar (λ_ _=>rfl)) (aW aI aJ (aj 0) ar (λ_ _=>rfl)))) (ae (bo f7 eE (aW aI aJ (aj 0) ar (λ_ _=>rfl)) (aW aI aJ (aj 1) ar (λ_ _=>rfl))) ai)))))
theorem IZ (T:Txt mg)(CD:Fn P w K mg base "plus" 3 ["one","other"] (eK K 2 uG .S))(pF:Df K mg "total" qd):Fn P w K mg base "total" 4 ["some"] (eK K 1 kN .S):=by
 refine Df.fnD (N:=["some","result","fraction"]) (ps:=["some"]) (st:=qd) (k:=3) LA .S xT pF o_ IV rfl (by decide) ?_;intro f cQ A outer s0 H E hr;have hu:=hr.units;have jz:=bG hr;exact (ak (bh (i:=1) o_.nd (aX (ae ar (ae ar ai))))
 (ak (cU aap rfl (bt (aj 0)) (aB (i:=2) o_.nd)
 (aw (bh (i:=1) o_.nd (aG CD (rm hr) (ae (aj 1) (ae (aj 2) ai))))))
 (aw (aT (aj 1)))))
theorem qj (T:Txt mg)(bR:Fn P w K mg base "greatest_divisor" 1 ["one","other"] (eK K 2 bC .S))(dY:Df K mg "common_bottom" d9):Fn P w K mg base "common_bottom" 2 ["some"] (eK K 1 c6 .S):=by
 refine Df.fnD (N:=["some","bottom","fraction"]) (ps:=["some"]) (st:=d9) (k:=1) rG .S iF dY ff qe rfl (by decide) ?_;intro f cQ A outer s0 H E hr;have hu:=hr.units;have jz:=bG hr;exact (ak (bh (i:=1) ff.nd ar)
 (ak (cU aap rfl (bt (aj 0)) (aB (i:=2) ff.nd)
 (aw (bh (i:=1) ff.nd (bo i4 j4 (bo f7 eE (aj 1) (aW aI aJ (aj 2) ar (λ_ _=>rfl))) (aG bR (rm hr) (ae (aj 1) (ae (aW aI aJ (aj 2) ar (λ_ _=>rfl)) ai)))))))
 (aw (aT (aj 1)))))
theorem Aq (T:Txt mg)  (jr:Df K mg "cards_at" jk):Fn P w K mg base "cards_at" 1 ["row","places"] (eK K 2 b9 .S):=by
 refine Df.fnD (N:=["row","places"]) (ps:=["row","places"]) (st:=jk) (k:=0) B6 .S nO jr Al Am rfl (by decide) ?_;intro f cQ A outer s0 H E hr;have hu:=hr.units;have jz:=bG hr;exact (aw (aT (bX bf cD (by rfl) T.zcq c9 (ae (df (ao jk) ["row","places"] ["place","row"] [none,some 0] rfl (bt (aj 1)) (λY=>⟨(aB (i:=0) (show (["place","row"]:List Str).Nodup by decide+kernel)),bA,(aW aI aJ (aj 1) (aj 0) (λ_ _=>rfl))⟩)) ai))))
theorem Cc (T:Txt mg)  (kz:Df K mg "counted" kg):Fn P w K mg base "counted" 1 ["shuffle"] (eK K 1 ke .O):=by
 refine Df.fnD (N:=["shuffle","often","order"]) (ps:=["shuffle"]) (st:=kg) (k:=0) FF .O p9 kz nU B9 rfl (by decide) ?_;intro f cQ A outer s0 H E hr;have hu:=hr.units;have jz:=bG hr;exact (ak (eC (i:=1) nU.nd oJ)
 (ak (cU aap rfl (bt (aj 0)) (aB (i:=2) nU.nd)
 (aw (xx (j:=1) hu (bo fF fG (tV (j:=1) hu (aj 2) ar) ar) (aj 2))))
 (aw (xr (i:=1) (hi:=by decide)))))
theorem FJ (T:Txt mg)(gZ:Fn P w K mg base "cards_at" 1 ["row","places"] (eK K 2 b9 .S))(qu:Fn P w K mg base "counted" 1 ["shuffle"] (eK K 1 ke .O))(l_:Df K mg "spread" mJ):Fn P w K mg base "spread" 2 ["weights","shuffle"] (eK K 2 lX .O):=by
 refine Df.fnD (N:=["weights","shuffle","gathered","order","often","row","weight","changed"]) (ps:=["weights","shuffle"]) (st:=mJ) (k:=1) IQ .O uJ l_ gX FH rfl (by decide) ?_;intro f cQ A outer s0 H E hr;have hu:=hr.units;have jz:=bG hr;exact (ak (eC (i:=2) gX.nd oJ)
 (ak (cU aap rfl (zJ (aG qu (rm hr) (ae (aj 1) ai))) (fz rfl (aS (aB (i:=3) gX.nd) (aS (aB (i:=4) gX.nd) dB)))
 (aw (cU aap rfl (zJ (aj 0)) (fz rfl (aS (aB (i:=5) gX.nd) (aS (aB (i:=6) gX.nd) dB)))
 (ak (bh (i:=7) gX.nd (aG gZ (rm hr) (ae (aj 5) (ae (aj 3) ai))))
 (aw (xx (j:=2) hu (bo fF fG (tV (j:=2) hu (aj 7) ar) (bo f7 eE (aj 6) (aj 4))) (aj 7)))))))
 (aw (xr (i:=2) (hi:=by decide)))))
theorem qk (T:Txt mg)(iM:Fn P w K mg base "common_bottom" 2 ["some"] (eK K 1 c6 .S))(dZ:Df K mg "whole_weights" du):Fn P w K mg base "whole_weights" 3 ["state","number"] (eK K 2 dR .S):=by
 refine Df.fnD (N:=["state","number","bottom","whole","row","weights","weight"]) (ps:=["state","number"]) (st:=du) (k:=2) rH .S iG dZ cF qf rfl (by decide) ?_;intro f cQ A outer s0 H E hr;have hu:=hr.units;have jz:=bG hr;exact (ak (bh (i:=2) cF.nd (aG iM (rm hr) (ae (df (ao du) ["state","number","bottom","whole","row","weights","weight"] ["row","weights","number"] [none,none,some 1] rfl (bt (aj 0)) (λY=>⟨(fz rfl (aS (aB (i:=0) (show (["row","weights","number"]:List Str).Nodup by decide+kernel)) (aS (aB (i:=1) (show (["row","weights","number"]:List Str).Nodup by decide+kernel)) dB))),bA,(aW aI aJ (aj 1) (aj 2) (λ_ _=>rfl))⟩)) ai)))
 (ak (eC (i:=3) cF.nd oJ)
 (ak (cU aap rfl (bt (aj 0)) (fz rfl (aS (aB (i:=4) cF.nd) (aS (aB (i:=5) cF.nd) dB)))
 (ak (bh (i:=6) cF.nd (aW aI aJ (aj 5) (aj 1) (λ_ _=>rfl)))
 (aw (xx (j:=3) hu (bo f7 eE (aW aI aJ (aj 6) ar (λ_ _=>rfl)) (bo i4 j4 (aj 2) (aW aI aJ (aj 6) ar (λ_ _=>rfl)))) (aj 4)))))
 (sJ 3 (aw (aT (aX (ae (aj 3) (ae (aj 2) ai)))))))))
theorem Ar (T:Txt mg)(mO:Fn P w K mg base "ratio" 2 ["top","bottom"] (eK K 2 jH .S))(jt:Df K mg "state_of" jl):Fn P w K mg base "state_of" 3 ["deals"] (eK K 1 fN .S):=by
 refine Df.fnD (N:=["deals","rows","whole","bottom","state","row"]) (ps:=["deals"]) (st:=jl) (k:=2) B7 .S nP jt fY An rfl (by decide) ?_;intro f cQ A outer s0 H E hr;have hu:=hr.units;have jz:=bG hr;exact (ak (eC (i:=1) fY.nd (eJ ai))
 (ak (cU aap rfl (bt (aj 0)) (fz rfl (aS (aB (i:=2) fY.nd) (aS (aB (i:=3) fY.nd) dB)))
 (aw (mn (nD (i:=1) aaV PySem.F.slot_list_extend PySem.F.type_list_extend KZ By (ae (bX (B1 rfl) Fy (by rfl) T.zeq CT (ae (aj 2) ai)) ai)))))
 (sJ 1 (ak (eC (i:=4) fY.nd (eJ ai))
 (ak (cU aap rfl (bt (m1:=.O) (BZ rfl hu (ae (aj 1) ai) T.zbq T.zfq)) (aB (i:=5) fY.nd)
 (aw (mn (nD (i:=4) aaV abq abr iZ jb (ae (aX (ae (aj 5) (ae (bX bf cD (by rfl) T.zcq c9 (ae (df (ao jl) ["deals","rows","whole","bottom","state","row"] ["whole","bottom","row"] [none,none,some 5] rfl (bt (aj 0)) (λY=>⟨(fz rfl (aS (aB (i:=0) (show (["whole","bottom","row"]:List Str).Nodup by decide+kernel)) (aS (aB (i:=1) (show (["whole","bottom","row"]:List Str).Nodup by decide+kernel)) dB))),bA,(aG mO (rm hr) (ae (tV (j:=0) hu (aj 2) ar) (ae (aj 1) ai)))⟩)) ai)) ai))) ai)))))
 (aw (aT (bX bf cD (by rfl) T.zcq c9 (ae (fJ 4) ai)))))))))
theorem I0 (T:Txt mg)(g7:Fn P w K mg base "state_of" 3 ["deals"] (eK K 1 fN .S))(pG:Df K mg "begun" nR):Fn P w K mg base "begun" 4 ["rows"] (eK K 1 mI .S):=by
 refine Df.fnD (N:=["rows"]) (ps:=["rows"]) (st:=nR) (k:=3) LB .S xU pG IW IX rfl (by decide) ?_;intro f cQ A outer s0 H E hr;have hu:=hr.units;have jz:=bG hr;exact (aw (aT (aG g7 (rm hr) (ae (df (ao nR) ["rows"] ["row"] [none] rfl (bt (aj 0)) (λY=>⟨(aB (i:=0) (show (["row"]:List Str).Nodup by decide+kernel)),bA,(aX (ae (IH (j:=0) hu) (ae ar ai)))⟩)) ai))))
theorem rT (T:Txt mg)  (eR:Df K mg "deal_numbers" fb):Fn P w K mg base "deal_numbers" 1 ["state"] (eK K 1 cJ .O):=by
 refine Df.fnD (N:=["state"]) (ps:=["state"]) (st:=fb) (k:=0) uK .O jh eR rM rN rfl (by decide) ?_;intro f cQ A outer s0 H E hr;have hu:=hr.units;have jz:=bG hr;exact (aw (mq (xw rfl (ae (bD dC eZ (by rfl) T.zkq gc (ae (aW aI aJ (aW aI aJ (aj 0) ar (λ_ _=>rfl)) ar (λ_ _=>rfl)) ai)) ai) T.zeq T.zdq)))
theorem uU (T:Txt mg)(vl:Fn P w K mg base "spread" 2 ["weights","shuffle"] (eK K 2 lX .O))(iN:Fn P w K mg base "whole_weights" 3 ["state","number"] (eK K 2 dR .S))(g7:Fn P w K mg base "state_of" 3 ["deals"] (eK K 1 fN .S))(dF:Fn P w K mg base "deal_numbers" 1 ["state"] (eK K 1 cJ .O))(fE:Df K mg "mixed_state" fV):Fn P w K mg base "mixed_state" 4 ["state","shuffle"] (eK K 2 bB .S):=by
 refine Df.fnD (N:=["state","shuffle","mixed","number","deal"]) (ps:=["state","shuffle"]) (st:=fV) (k:=3) vH .S jX fE gx uT rfl (by decide) ?_;intro f cQ A outer s0 H E hr;have hu:=hr.units;have jz:=bG hr;exact (ak (eC (i:=2) gx.nd (eJ ai))
 (ak (cU aap rfl (bt (m1:=.O) (aG dF (rm hr) (ae (aj 0) ai))) (aB (i:=3) gx.nd)
 (ak (bh (i:=4) gx.nd (aG iN (rm hr) (ae (aj 0) (ae (aj 3) ai))))
 (aw (mn (nD (i:=2) aaV abq abr iZ jb (ae (aX (ae (aG vl (rm hr) (ae (aW aI aJ (aj 4) ar (λ_ _=>rfl)) (ae (aj 1) ai))) (ae (bo f7 eE (aW aI aJ (aj 4) ar (λ_ _=>rfl)) (bD dC eZ (by rfl) T.zkq gc (ae (aj 1) ai))) ai))) ai))))))
 (sJ 2 (aw (aT (aG g7 (rm hr) (ae (aj 2) ai)))))))
theorem rV (T:Txt mg)(gZ:Fn P w K mg base "cards_at" 1 ["row","places"] (eK K 2 b9 .S))(eT:Df K mg "looked_state" dP):Fn P w K mg base "looked_state" 2 ["state","places"] (eK K 2 bU .O):=by
 refine Df.fnD (N:=["state","places","parts","row","weights","seen"]) (ps:=["state","places"]) (st:=dP) (k:=1) uL .O ji eT dW rO rfl (by decide) ?_;intro f cQ A outer s0 H E hr;have hu:=hr.units;have jz:=bG hr;exact (ak (eC (i:=2) dW.nd oJ)
 (ak (Lr (PL aap rfl (bt (aj 0)) (fz rfl (aS (aB (i:=3) dW.nd) (aS (aB (i:=4) dW.nd) dB)))
 (Aa (PU (aG gZ (rm hr) (ae (aj 3) (ae (aj 1) ai))) (aB (i:=5) dW.nd))
 (Aa (PX hu (aj 5) (DZ (Lv hu (aj 5) Ls)) Lq)
 (DZ (PQ (PV hu (Lu 2) (aj 5)) (aX (ae (aj 3) (ae (aj 4) ai)))))))))
 (sJ 2 (aw (mq (df (ao dP) ["state","places","parts","row","weights","seen"] ["seen","parts"] [none,some 2] rfl (bt (m1:=.O) (bD (Fq rfl hu) Iw (by rfl) T.zbq wc (ae (aj 2) ai))) (λY=>⟨(aB (i:=0) (show (["seen","parts"]:List Str).Nodup by decide+kernel)),bA,(aX (ae (aj 0) (ae (bX bf cD (by rfl) T.zcq c9 (ae (Pe hu (aj 1) (aj 0)) ai)) ai)))⟩)))))))
theorem Cd (T:Txt mg)(yI:Fn P w K mg base "total" 4 ["some"] (eK K 1 kN .S))(dF:Fn P w K mg base "deal_numbers" 1 ["state"] (eK K 1 cJ .O))(kA:Df K mg "sums_of" jL):Fn P w K mg base "sums_of" 5 ["state"] (eK K 1 i5 .O):=by
 refine Df.fnD (N:=["state"]) (ps:=["state"]) (st:=jL) (k:=4) FG .O qb kA B_ Ca rfl (by decide) ?_;intro f cQ A outer s0 H E hr;have hu:=hr.units;have jz:=bG hr;exact (aw (mq (df (ao jL) ["state"] ["number","state"] [none,some 0] rfl (bt (m1:=.O) (aG dF (rm hr) (ae (aj 0) ai))) (λY=>⟨(aB (i:=0) (show (["number","state"]:List Str).Nodup by decide+kernel)),bA,(aG yI (rm hr) (ae (df (MG _ (ao jL)) ["number","state"] ["row","weights","number"] [none,none,some 0] rfl (bt (aj 1)) (λY=>⟨(fz rfl (aS (aB (i:=0) (show (["row","weights","number"]:List Str).Nodup by decide+kernel)) (aS (aB (i:=1) (show (["row","weights","number"]:List Str).Nodup by decide+kernel)) dB))),bA,(aW aI aJ (aj 1) (aj 2) (λ_ _=>rfl))⟩)) ai))⟩))))
theorem qm (T:Txt mg)(dG:Fn P w K mg base "looked_state" 2 ["state","places"] (eK K 2 bU .O))(qv:Fn P w K mg base "sums_of" 5 ["state"] (eK K 1 i5 .O))(d7:Df K mg "is_quiet_look" dQ):Fn P w K mg base "is_quiet_look" 6 ["state","places"] (eK K 2 b_ .S):=by
 refine Df.fnD (N:=["state","places"]) (ps:=["state","places"]) (st:=dQ) (k:=5) rJ .S iH d7 qg qh rfl (by decide) ?_;intro f cQ A outer s0 H E hr;have hu:=hr.units;have jz:=bG hr;exact (aw (aT (bD (EU rfl) KW (by rfl) T.ziq OT (ae (df (ao dQ) ["state","places"] ["seen","part"] [none,none] rfl (bt (m1:=.O) (aG dG (rm hr) (ae (aj 0) (ae (aj 1) ai)))) (λY=>⟨(fz rfl (aS (aB (i:=0) (show (["seen","part"]:List Str).Nodup by decide+kernel)) (aS (aB (i:=1) (show (["seen","part"]:List Str).Nodup by decide+kernel)) dB))),bA,(GF n_ iT (B3 rfl hu (ae (aG qv (rm hr) (ae (aj 1) ai)) ai) (by rfl) T.zkq (by rfl) T.zfq) ar (bK _))⟩)) ai))))
theorem As (T:Txt mg)  (g8:Df K mg "depth_in" gw):∀n,Fn P w K mg base "depth_in" (n+1) ["plan","menu"] (eK K 2 (bH n) .S):=by
 intro n
 induction n with
 |zero=>
  refine Df.fnD (N:=["plan","menu","inner","depths"]) (ps:=["plan","menu"]) (st:=gw) (k:=0) uM .S (eL 0) g8 iq rl rfl (by decide) ?_;intro f cQ A outer s0 H E hr;have hu:=hr.units;have jz:=bG hr;exact sI
 |succ n jw=>
  refine Df.fnD (N:=["plan","menu","inner","depths"]) (ps:=["plan","menu"]) (st:=gw) (k:=n+1) uM .S (eL (n+1)) g8 iq rl rfl (by decide) ?_;intro f cQ A outer s0 H E hr;have hu:=hr.units;have jz:=bG hr;exact (ak (eD (bF n_ iT (aW aI aJ (aj 0) ar (λ_ _=>rfl)) nC (bK _)) (aw (aT ar)) bM)
 (ak (eD (DW.dt (xp (bF n_ iT (aW aI aJ (aj 0) ar (λ_ _=>rfl)) nC (bK _)) (sy (bF (ID hu) xO (aW aI aJ (aj 0) ar (λ_ _=>rfl)) (aj 1) (by with_unfolding_all rfl))))) (aw (bh (i:=2) iq.nd (eJ (ae (aW aI aJ (aj 0) ar (λ_ _=>rfl)) ai)))) (aw (eD (DW.dt (xp (bF n_ iT (aW aI aJ (aj 0) ar (λ_ _=>rfl)) nC (bK _)) (sy (bF n_ iT (bD dC eZ (by rfl) T.zkq gc (ae (aW aI aJ (aj 0) ar (λ_ _=>rfl)) ai)) ar (bK _))))) (aw (kM (i:=2) (ao gw) ["plan","menu","inner","depths"] ["way"] [none] iq.nd rfl (bt (aW aI aJ (aj 0) ar (λ_ _=>rfl))) (λY=>⟨(aB (i:=0) (show (["way"]:List Str).Nodup by decide+kernel)),bA,(aW aI aJ (aj 0) ar (λ_ _=>rfl))⟩))) (aw (aT cq)))))
 (ak (kM (i:=3) (ao gw) ["plan","menu","inner","depths"] ["part","menu"] [none,some 1] iq.nd rfl (bt (aj 2)) (λY=>⟨(aB (i:=0) (show (["part","menu"]:List Str).Nodup by decide+kernel)),bA,(aG jw (rm hr) (ae (aj 0) (ae (aj 1) ai)))⟩))
 (ak (eD (bF (ID hu) xO cq (aj 3) (by with_unfolding_all rfl)) (aw (aT cq)) bM)
 (aw (aT (bo fF fG ar (bD (Fv rfl) IC (by rfl) T.zlq Gz (ae (aj 3) ai)))))))))
theorem vN (T:Txt mg)  (gy:Df K mg "cards_told" gR):Fn P w K mg base "cards_told" 1 ["state","place"] (eK K 2 cv .S):=by
 refine Df.fnD (N:=["state","place","told","row","weights","number","weight"]) (ps:=["state","place"]) (st:=gR) (k:=0) xV .S iU gy d_ vI rfl (by decide) ?_;intro f cQ A outer s0 H E hr;have hu:=hr.units;have jz:=bG hr;exact (ak (eC (i:=2) d_.nd (bo Lo IB (eJ (ae cq ai)) (bD dC eZ (by rfl) T.zkq gc (ae (aW aI aJ (aW aI aJ (aj 0) ar (λ_ _=>rfl)) ar (λ_ _=>rfl)) ai))))
 (ak (cU aap rfl (bt (aj 0)) (fz rfl (aS (aB (i:=3) d_.nd) (aS (aB (i:=4) d_.nd) dB)))
 (aw (cU aap rfl (Lf (ae (aj 4) ai) T.zaq) (fz rfl (aS (aB (i:=5) d_.nd) (aS (aB (i:=6) d_.nd) dB)))
 (ak (eD (DW.dt (xp (bF MB GY (aW aI aJ (aj 6) ar (λ_ _=>rfl)) ar (bK _)) (sy (bF (wR hu) xO (aW aI aJ (fJ 2) (aj 5) (λ_ _=>rfl)) (aX (ae cq (ae (aW aI aJ (aj 3) (aj 1) (λ_ _=>rfl)) ai))) (by with_unfolding_all rfl))))) (aw (aT cq)) bM)
 (aw (eD (bF MB GY (aW aI aJ (aj 6) ar (λ_ _=>rfl)) ar (bK _)) (aw (xu (i:=2) (aW aI aJ (aj 3) (aj 1) (λ_ _=>rfl)) (aj 5))) bM))))))
 (aw (aT (bX bf cD (by rfl) T.zcq c9 (ae (fJ 2) ai))))))
theorem yc (T:Txt mg)(kX:Fn P w K mg base "cards_told" 1 ["state","place"] (eK K 2 cv .S))(iu:Df K mg "right_end" fc):Fn P w K mg base "right_end" 2 ["state","dues"] (eK K 2 bV .S):=by
 refine Df.fnD (N:=["state","dues","told","places","number","due","fitting"]) (ps:=["state","dues"]) (st:=fc) (k:=1) Af .S lY iu fg x8 rfl (by decide) ?_;intro f cQ A outer s0 H E hr;have hu:=hr.units;have jz:=bG hr;exact (ak (bh (i:=2) fg.nd (df (ao fc) ["state","dues","told","places","number","due","fitting"] ["place","state"] [none,some 0] rfl (fS (ae (bD dC eZ (by rfl) T.zkq gc (ae (aW aI aJ (aW aI aJ (aj 0) ar (λ_ _=>rfl)) ar (λ_ _=>rfl)) ai)) ai) T.zdq) (λY=>⟨(aB (i:=0) (show (["place","state"]:List Str).Nodup by decide+kernel)),bA,(aG kX (rm hr) (ae (aj 1) (ae (aj 0) ai)))⟩)))
 (ak (eC (i:=3) fg.nd (eJ ai))
 (ak (cU aap rfl (fS (ae (bD dC eZ (by rfl) T.zkq gc (ae (aW aI aJ (aj 1) ar (λ_ _=>rfl)) ai)) ai) T.zdq) (aB (i:=4) fg.nd)
 (ak (bh (i:=5) fg.nd (bX bf cD (by rfl) T.zcq c9 (ae (df (ao fc) ["state","dues","told","places","number","due","fitting"] ["each","number"] [none,some 4] rfl (bt (aj 1)) (λY=>⟨(aB (i:=0) (show (["each","number"]:List Str).Nodup by decide+kernel)),bA,(aW aI aJ (aj 0) (aj 1) (λ_ _=>rfl))⟩)) ai)))
 (ak (kM (i:=6) (ao fc) ["state","dues","told","places","number","due","fitting"] ["place","due","places","told"] [none,some 5,some 3,some 2] fg.nd rfl (fS (ae (bD dC eZ (by rfl) T.zkq gc (ae (aj 2) ai)) ai) T.zdq) (λY=>⟨(aB (i:=0) (show (["place","due","places","told"]:List Str).Nodup by decide+kernel)),(GP (DW.dt (xp (bF (OR hu) (O8 (f:=id)) (aW aI aJ (aj 3) (aj 0) (λ_ _=>rfl)) (aj 1) (bK _)) (sy (bF (wR hu) xO (aj 0) (fJ 2) (by with_unfolding_all rfl)))))),(aj 0)⟩))
 (ak (eD (bF n_ iT (bD dC eZ (by rfl) T.zkq gc (ae (aj 6) ai)) ar (bK _)) (aw (aT cq)) bM)
 (aw (mn (nD (i:=3) aaV abq abr iZ jb (ae (aW aI aJ (aj 6) ar (λ_ _=>rfl)) ai))))))))
 (aw (aT (aX (ae nC (ae (bX bf cD (by rfl) T.zcq c9 (ae (fJ 3) ai)) ai))))))))
theorem uW (T:Txt mg)(dG:Fn P w K mg base "looked_state" 2 ["state","places"] (eK K 2 bU .O))(iO:Fn P w K mg base "is_quiet_look" 6 ["state","places"] (eK K 2 b_ .S))(j1:Fn P w K mg base "mixed_state" 4 ["state","shuffle"] (eK K 2 bB .S))(ma:Fn P w K mg base "right_end" 2 ["state","dues"] (eK K 2 bV .S))(eh:Df K mg "look_within" eM)(fi:Df K mg "mix_within" fO)(eo:Df K mg "plan_within" eN):∀n,(Fn P w K mg base "look_within" (n+7) ["state","place","dues","menu","depth"] (eK K 5 (bq n) .S))/\(Fn P w K mg base "mix_within" (n+7) ["state","shuffle","dues","menu","depth"] (eK K 5 (aO n) .S))/\(Fn P w K mg base "plan_within" (n+7) ["state","dues","menu","depth"] (eK K 4 (ax n) .S)):=by
 intro n
 induction n with
 |zero=>
  refine⟨?_,?_,?_⟩
  ·
   refine Df.fnD (N:=["state","place","dues","menu","depth","parts","ways","seen","part","plan"]) (ps:=["state","place","dues","menu","depth"]) (st:=eM) (k:=6) m9 .S (dq 0) eh cK l7 rfl (by decide) ?_;intro f cQ A outer s0 H E hr;have hu:=hr.units;have jz:=bG hr;exact sI
  ·
   refine Df.fnD (N:=["state","shuffle","dues","menu","depth","plan"]) (ps:=["state","shuffle","dues","menu","depth"]) (st:=fO) (k:=6) o9 .S (e_ 0) fi jY ng rfl (by decide) ?_;intro f cQ A outer s0 H E hr;have hu:=hr.units;have jz:=bG hr;exact sI
  ·
   refine Df.fnD (N:=["state","dues","menu","depth","plan","place","shuffle"]) (ps:=["state","dues","menu","depth"]) (st:=eN) (k:=6) m_ .S (cB 0) eo cN l8 rfl (by decide) ?_;intro f cQ A outer s0 H E hr;have hu:=hr.units;have jz:=bG hr;exact sI
 |succ n ih=>
  obtain⟨ny,pH,er⟩:=ih;refine⟨?_,?_,?_⟩
  ·
   refine Df.fnD (N:=["state","place","dues","menu","depth","parts","ways","seen","part","plan"]) (ps:=["state","place","dues","menu","depth"]) (st:=eM) (k:=n+7) m9 .S (dq (n+1)) eh cK l7 rfl (by decide) ?_;intro f cQ A outer s0 H E hr;have hu:=hr.units;have jz:=bG hr;exact (ak (eD (xq (tJ (aG iO (rm hr) (ae (aj 0) (ae (aX (ae (aj 1) ai)) ai))))) (aw (aT cq)) bM)
 (ak (bh (i:=5) cK.nd (aG dG (rm hr) (ae (aj 0) (ae (aX (ae (aj 1) ai)) ai))))
 (ak (eD (bF n_ iT (bD dC eZ (by rfl) T.zkq gc (ae (aj 5) ai)) ar (bK _)) (aw (aT cq)) bM)
 (ak (eC (i:=6) cK.nd (eJ ai))
 (ak (cU aap rfl (bt (aj 5)) (fz rfl (aS (aB (i:=7) cK.nd) (aS (aB (i:=8) cK.nd) dB)))
 (ak (bh (i:=9) cK.nd (aG er (rm hr) (Hi (aF (aj 8) (aF (aj 2) (aF (aj 3) (aF (bo pL my (aj 4) ar) gh)))))))
 (ak (eD (bF sW oG (aj 9) cq (bK _)) (aw (aT cq)) bM)
 (aw (mn (nD (i:=6) aaV abq abr iZ jb (ae (aX (ae (aj 7) (ae (aj 9) ai))) ai)))))))
 (aw (aT (aX (ae nC (ae (aX (ae (aj 1) ai)) (ae (bX bf cD (by rfl) T.zcq c9 (ae (fJ 6) ai)) ai)))))))))))
  ·
   refine Df.fnD (N:=["state","shuffle","dues","menu","depth","plan"]) (ps:=["state","shuffle","dues","menu","depth"]) (st:=fO) (k:=n+7) o9 .S (e_ (n+1)) fi jY ng rfl (by decide) ?_;intro f cQ A outer s0 H E hr;have hu:=hr.units;have jz:=bG hr;exact (ak (bh (i:=5) jY.nd (aG er (rm hr) (Hi (aF (aG j1 (rm hr) (ae (aj 0) (ae (aj 1) ai))) (aF (aj 2) (aF (aj 3) (aF (bo pL my (aj 4) ar) gh)))))))
 (aw (aT (GH (hc:=(bF sW oG (aj 5) cq (bK _))) (ha:=cq) (hb:=(aX (ae nC (ae (aj 1) (ae (aj 5) ai)))))))))
  ·
   refine Df.fnD (N:=["state","dues","menu","depth","plan","place","shuffle"]) (ps:=["state","dues","menu","depth"]) (st:=eN) (k:=n+7) m_ .S (cB (n+1)) eo cN l8 rfl (by decide) ?_;intro f cQ A outer s0 H E hr;have hu:=hr.units;have jz:=bG hr;exact (ak (bh (i:=4) cN.nd (aG ma (rm hr) (ae (aj 0) (ae (aj 1) ai))))
 (ak (eD (DW.dt (CU (bF oe lH (aj 4) cq (bK _)) (Bo (bF n_ iT (aj 3) ar (bK _))))) (aw (aT (aj 4))) bM)
 (ak (cU aap rfl (fS (ae (bD dC eZ (by rfl) T.zkq gc (ae (aW aI aJ (aW aI aJ (aj 0) ar (λ_ _=>rfl)) ar (λ_ _=>rfl)) ai)) ai) T.zdq) (aB (i:=5) cN.nd)
 (ak (bh (i:=4) cN.nd (aG ny (rm hr) (Hi (aF (aj 0) (aF (aj 5) (aF (aj 1) (aF (aj 2) (aF (aj 3) gh))))))))
 (aw (eD (bF oe lH (aj 4) cq (bK _)) (aw (aT (aj 4))) bM))))
 (ak (eD (bF n_ iT (aj 3) ar (bK _)) (aw (aT cq)) bM)
 (ak (cU aap rfl (bt (aj 2)) (aB (i:=6) cN.nd)
 (ak (bh (i:=4) cN.nd (aG pH (rm hr) (Hi (aF (aj 0) (aF (aj 6) (aF (aj 1) (aF (aj 2) (aF (aj 3) gh))))))))
 (aw (eD (bF oe lH (aj 4) cq (bK _)) (aw (aT (aj 4))) bM))))
 (aw (aT cq)))))))
theorem FK (T:Txt mg)(yJ:Fn P w K mg base "begun" 4 ["rows"] (eK K 1 mI .S))(er:∀n,Fn P w K mg base "plan_within" (n+7) ["state","dues","menu","depth"] (eK K 4 (ax n) .S))(md:Df K mg "fewest" jM):Fn P w K mg base "fewest" 28 ["deals","menu","most"] (eK K 3 cf .S):=by
 refine Df.fnD (N:=["deals","menu","most","state","dues","depth","plan"]) (ps:=["deals","menu","most"]) (st:=jM) (k:=27) IS .S uN md kj FI rfl (by decide) ?_;intro f cQ A outer s0 H E hr;have hu:=hr.units;have jz:=bG hr;exact (ak (bh (i:=3) kj.nd (aG yJ (rm hr) (ae (df (ao jM) ["deals","menu","most","state","dues","depth","plan"] ["row","due"] [none,none] rfl (bt (aj 0)) (λY=>⟨(fz rfl (aS (aB (i:=0) (show (["row","due"]:List Str).Nodup by decide+kernel)) (aS (aB (i:=1) (show (["row","due"]:List Str).Nodup by decide+kernel)) dB))),bA,(aj 0)⟩)) ai)))
 (ak (kM (i:=4) (ao jM) ["deals","menu","most","state","dues","depth","plan"] ["row","due"] [none,none] kj.nd rfl (bt (aj 0)) (λY=>⟨(fz rfl (aS (aB (i:=0) (show (["row","due"]:List Str).Nodup by decide+kernel)) (aS (aB (i:=1) (show (["row","due"]:List Str).Nodup by decide+kernel)) dB))),bA,(aj 1)⟩))
 (ak (cU aap rfl (fS (ae (bo fF fG (aj 2) ar) ai) T.zdq) (aB (i:=5) kj.nd)
 (ak (bh (i:=6) kj.nd (aG (er 20) (rm hr) (Hi (aF (aj 3) (aF (aj 4) (aF (aj 1) (aF (aj 5) gh)))))))
 (aw (eD (bF oe lH (aj 6) cq (bK _)) (aw (aT (aj 6))) bM))))
 (aw (aT cq)))))
theorem rW (T:Txt mg)  (eU:Df K mg "_law_cell_at" gT):Fn P w K mg base "_law_cell_at" 1 ["script","k"] (eK K 2 dE .S):=by
 refine Df.fnD (N:=["script","k"]) (ps:=["script","k"]) (st:=gT) (k:=0) uP .S gm eU rP rQ rfl (by decide) ?_;intro f cQ A outer s0 H E hr;have hu:=hr.units;have jz:=bG hr;exact (ak (eD (bF MA GX (aj 1) (bD dC eZ (by rfl) T.zkq gc (ae (aj 0) ai)) (bK _)) (aw (aT (aW aI aJ (aj 0) (aj 1) (λ_ _=>rfl)))) bM)
 (aw (aT ar)))
theorem vO (T:Txt mg)(ju:Fn P w K mg base "_law_cell_at" 1 ["script","k"] (eK K 2 dE .S))(gz:Df K mg "_law_state" i7):Fn P w K mg base "_law_state" 2 ["script","k"] (eK K 2 gq .O):=by
 refine Df.fnD (N:=["script","k","cell"]) (ps:=["script","k"]) (st:=i7) (k:=1) xW .O iV gz nh vJ rfl (by decide) ?_;intro f cQ A outer s0 H E hr;have hu:=hr.units;have jz:=bG hr;exact (ak (bh (i:=2) nh.nd (aG ju (rm hr) (ae (aj 0) (ae (aj 1) ai))))
 (ak (eD (bF Rr O9 (aj 2) (bo Gb C0 ar ar) (bK _)) (aw (mq (eJ (ae (bo pL my (aj 2) (bo Gb C0 ar ar)) (ae ox ai))))) bM)
 (aw (mq (eJ (ae (bo nB kG (aj 2) ar) (ae ox ai)))))))
theorem yd (T:Txt mg)  (iy:Df K mg "_law_take" kh):Fn P w K mg base "_law_take" 1 ["state","many"] (FX K 2 bW):=by
 refine Df.fnI (N:=["state","many","found","mixed"]) (ps:=["state","many"]) (st:=kh) (k:=0) Ag jK iy iW x9 rfl rfl (by decide) ?_;intro f cQ A outer s0 H E hr;have hu:=hr.units;have jz:=bG hr;exact (ak (eD (tJ (aW aI aJ (fJ 0) ar (λ_ _=>rfl))) (ak (bh (i:=2) iW.nd (bo nB kG (aW aI aJ (fJ 0) ar (λ_ _=>rfl)) (aj 1)))
 (ak (xu (i:=0) (bo i4 j4 (aW aI aJ (fJ 0) ar (λ_ _=>rfl)) (aj 1)) ar)
 (aw (aT (aj 2))))) bM)
 (ak (xu (i:=0) (bo nB kG (bo fF fG (bo f7 eE (aW aI aJ (fJ 0) ar (λ_ _=>rfl)) ar) ar) ar) ar)
 (ak (bh (i:=3) iW.nd (bo nB kG (bo fF fG (bo fF fG (bo f7 eE (aW aI aJ (fJ 0) ar (λ_ _=>rfl)) (aW aI aJ (fJ 0) ar (λ_ _=>rfl))) (bo f7 eE ar (aW aI aJ (fJ 0) ar (λ_ _=>rfl)))) ar) ar))
 (ak (bh (i:=3) iW.nd (bo nB kG (bo fF fG (bo f7 eE (aj 3) (aj 3)) (bo f7 eE ar (aj 3))) ar))
 (aw (aT (bo nB kG (bo i4 j4 (aj 3) ar) (aj 1))))))))
theorem vQ (T:Txt mg)(dh:Fn P w K mg base "_law_take" 1 ["state","many"] (FX K 2 bW))(gA:Df K mg "_law_order" gU):Fn P w K mg base "_law_order" 2 ["state","many"] (FX K 2 cw):=by
 refine Df.fnI (N:=["state","many","left"]) (ps:=["state","many"]) (st:=gU) (k:=1) kO kP gA nj vK rfl rfl (by decide) ?_;intro f cQ A outer s0 H E hr;have hu:=hr.units;have jz:=bG hr;exact (ak (eC (i:=2) nj.nd (xw rfl (ae (aj 1) ai) T.zeq T.zdq))
 (aw (aT (bX bf cD (by rfl) T.zcq c9 (ae (Lx (ao gU) ["state","many","left"] ["k","left","state"] [none,some 2,some 0] rfl (fS (ae (aj 1) ai) T.zdq) (λY=>⟨(aB (i:=0) (show (["k","left","state"]:List Str).Nodup by decide+kernel)),bA,(nD (i:=1) aaV PySem.F.slot_list_pop PySem.F.type_list_pop Gh E6 (ae (ij (i:=2) dh (rm hr) (ae (bD dC eZ (by rfl) T.zkq gc (ae (fJ 1) ai)) ai)) ai))⟩)) ai)))))
theorem ye (T:Txt mg)  (iz:Df K mg "_law_laid" jn):Fn P w K mg base "_law_laid" 1 ["row","order"] (eK K 2 fT .S):=by
 refine Df.fnD (N:=["row","order"]) (ps:=["row","order"]) (st:=jn) (k:=0) Ah .S lZ iz x_ ya rfl (by decide) ?_;intro f cQ A outer s0 H E hr;have hu:=hr.units;have jz:=bG hr;exact (aw (aT (bX bf cD (by rfl) T.zcq c9 (ae (df (ao jn) ["row","order"] ["place","row"] [none,some 0] rfl (bt (aj 1)) (λY=>⟨(aB (i:=0) (show (["place","row"]:List Str).Nodup by decide+kernel)),bA,(aW aI aJ (aj 1) (aj 0) (λ_ _=>rfl))⟩)) ai))))
theorem yf (T:Txt mg)  (iA:Df K mg "_law_rows" ki):Fn P w K mg base "_law_rows" 1 ["free"] (eK K 1 fU .O):=by
 refine Df.fnD (N:=["free","rows","bits"]) (ps:=["free"]) (st:=ki) (k:=0) Ai .O rk iA kR yb rfl (by decide) ?_;intro f cQ A outer s0 H E hr;have hu:=hr.units;have jz:=bG hr;exact (ak (eC (i:=1) kR.nd (eJ ai))
 (ak (cU aap rfl (bt (eJ (Hi (aF (aX (ae ar (ae ar ai))) (aF (aX (ae ar (ae ar ai))) (aF (aX (ae ar (ae ar ai))) (aF (aX (ae ar (ae ar ai))) gh))))))) (aB (i:=2) kR.nd)
 (aw (mn (nD (i:=1) aaV abq abr iZ jb (ae (bo fF fG (aX (Hi (aF (aW aI aJ (aj 2) ar (λ_ _=>rfl)) (aF (bo pL my ar (aW aI aJ (aj 2) ar (λ_ _=>rfl))) (aF (aW aI aJ (aj 2) ar (λ_ _=>rfl)) (aF (bo pL my ar (aW aI aJ (aj 2) ar (λ_ _=>rfl))) gh)))))) (aj 0)) ai)))))
 (aw (xr (i:=1) (hi:=by decide)))))
theorem rX (T:Txt mg)  (eV:Df K mg "_law_swapped" fW):Fn P w K mg base "_law_swapped" 1 ["many","pairs"] (eK K 2 gr .S):=by
 refine Df.fnD (N:=["many","pairs","found","one","other"]) (ps:=["many","pairs"]) (st:=fW) (k:=0) uQ .S l5 eV fH rR rfl (by decide) ?_;intro f cQ A outer s0 H E hr;have hu:=hr.units;have jz:=bG hr;exact (ak (eC (i:=2) fH.nd (xw rfl (ae (aj 0) ai) T.zeq T.zdq))
 (ak (cU aap rfl (bt (aj 1)) (fz rfl (aS (aB (i:=3) fH.nd) (aS (aB (i:=4) fH.nd) dB)))
 (aw (PY (i:=2) rfl (ae (aj 4) (ae (aj 3) ai)) (aj 3) (aj 4))))
 (aw (aT (bX bf cD (by rfl) T.zcq c9 (ae (fJ 2) ai))))))
theorem Au (T:Txt mg)  (jv:Df K mg "_law_led" jN):Fn P w K mg base "_law_led" 1 ["order","shuffle"] (eK K 2 gP .S):=by
 refine Df.fnD (N:=["order","shuffle"]) (ps:=["order","shuffle"]) (st:=jN) (k:=0) B8 .S nQ jv Ao Ap rfl (by decide) ?_;intro f cQ A outer s0 H E hr;have hu:=hr.units;have jz:=bG hr;exact (aw (aT (bX bf cD (by rfl) T.zcq c9 (ae (df (ao jN) ["order","shuffle"] ["one","order"] [none,some 0] rfl (bt (aj 1)) (λY=>⟨(aB (i:=0) (show (["one","order"]:List Str).Nodup by decide+kernel)),bA,(bX bf cD (by rfl) T.zcq c9 (ae (df (MG _ (ao jN)) ["one","order"] ["place","order","one"] [none,some 1,some 0] rfl (bt (aj 1)) (λY=>⟨(aB (i:=0) (show (["place","order","one"]:List Str).Nodup by decide+kernel)),bA,(IP (aj 1) (ae (aW aI aJ (aj 2) (aj 0) (λ_ _=>rfl)) ai))⟩)) ai))⟩)) ai))))
theorem vR (T:Txt mg)(mf:Fn P w K mg base "_law_laid" 1 ["row","order"] (eK K 2 fT .S))(gD:Df K mg "_law_deals" gW):Fn P w K mg base "_law_deals" 2 ["rows","dues","order"] (eK K 3 dO .O):=by
 refine Df.fnD (N:=["rows","dues","order"]) (ps:=["rows","dues","order"]) (st:=gW) (k:=1) xY .O kQ gD vL vM rfl (by decide) ?_;intro f cQ A outer s0 H E hr;have hu:=hr.units;have jz:=bG hr;exact (aw (mq (df (ao gW) ["rows","dues","order"] ["row","due","order"] [none,none,some 2] rfl (Pm (ae (aj 0) (ae (aj 1) ai)) T.zhq) (λY=>⟨(fz rfl (aS (aB (i:=0) (show (["row","due","order"]:List Str).Nodup by decide+kernel)) (aS (aB (i:=1) (show (["row","due","order"]:List Str).Nodup by decide+kernel)) dB))),bA,(aX (ae (aG mf (rm hr) (ae (aj 0) (ae (aj 2) ai))) (ae (aX (ae (aj 1) (ae (bo pL my ar (aj 1)) ai))) ai)))⟩))))
theorem qo (T:Txt mg)(jw:∀n,Fn P w K mg base "depth_in" (n+1) ["plan","menu"] (eK K 2 (bH n) .S))(iB:Fn P w K mg base "fewest" 28 ["deals","menu","most"] (eK K 3 cf .S))(dh:Fn P w K mg base "_law_take" 1 ["state","many"] (FX K 2 bW))(fj:Fn P w K mg base "_law_order" 2 ["state","many"] (FX K 2 cw))(jx:Fn P w K mg base "_law_swapped" 1 ["many","pairs"] (eK K 2 gr .S))(nZ:Fn P w K mg base "_law_led" 1 ["order","shuffle"] (eK K 2 gP .S))(fm:Fn P w K mg base "_law_deals" 2 ["rows","dues","order"] (eK K 3 dO .O))(d8:Df K mg "_law_two_deep" fX):Fn P w K mg base "_law_two_deep" 29 ["state","many","rows","dues","swaps"] (FX K 5 cc):=by
 refine Df.fnI (N:=["state","many","rows","dues","swaps","order","stays","shuffle","deals","menu","plan"]) (ps:=["state","many","rows","dues","swaps"]) (st:=fX) (k:=28) rL iI d8 bP qi rfl rfl (by decide) ?_;intro f cQ A outer s0 H E hr;have hu:=hr.units;have jz:=bG hr;exact (ak (bh (i:=5) bP.nd (ij (i:=0) fj (rm hr) (ae (aj 1) ai)))
 (ak (bh (i:=6) bP.nd (KY rfl (ae (aj 1) ai) T.zcq T.zdq))
 (ak (bh (i:=7) bP.nd (aG nZ (rm hr) (ae (aj 5) (ae (aX (ae (aj 6) (ae (aG jx (rm hr) (ae (aj 1) (ae (aj 4) ai))) ai))) ai))))
 (ak (bh (i:=8) bP.nd (aG fm (rm hr) (ae (aj 2) (ae (aj 3) (ae (aj 5) ai)))))
 (ak (cU aap rfl (bt (eJ (ae (aX (ae (aj 7) ai)) (ae (aX (ae (aX (ae (aj 6) ai)) (ae (aj 7) ai))) (ae (aX (ae (aj 7) (ae (aX (ae (aj 6) ai)) ai))) ai))))) (aB (i:=9) bP.nd)
 (ak (bh (i:=10) bP.nd (aG iB (rm hr) (ae (aj 8) (ae (aj 9) (ae (bo fF fG ar (ij (i:=0) dh (rm hr) (ae ar ai))) ai)))))
 (aw (eD (DW.dt (CU (bF sW oG (aj 10) cq (bK _)) (CU (bF Gd xP (aG (jw 20) (rm hr) (ae (aj 10) (ae (aj 9) ai))) ar (bK _)) (Bo (bF oe lH (aG iB (rm hr) (ae (aj 8) (ae (aj 9) (ae ar ai)))) cq (bK _)))))) (aw (aT ox)) bM))))
 (aw (aT (GF sW oG (aG iB (rm hr) (ae (aj 8) (ae (aX (ae (aX (ae (aj 6) ai)) ai)) (ae ar ai)))) cq (bK _)))))))))
theorem rY (T:Txt mg)(iB:Fn P w K mg base "fewest" 28 ["deals","menu","most"] (eK K 3 cf .S))(dh:Fn P w K mg base "_law_take" 1 ["state","many"] (FX K 2 bW))(fj:Fn P w K mg base "_law_order" 2 ["state","many"] (FX K 2 cw))(fm:Fn P w K mg base "_law_deals" 2 ["rows","dues","order"] (eK K 3 dO .O))(eW:Df K mg "_law_no_step" eO):Fn P w K mg base "_law_no_step" 29 ["state","rows"] (FX K 2 gu):=by
 refine Df.fnI (N:=["state","rows","order","at","dues","plan"]) (ps:=["state","rows"]) (st:=eO) (k:=28) uR jj eW dX rS rfl rfl (by decide) ?_;intro f cQ A outer s0 H E hr;have hu:=hr.units;have jz:=bG hr;exact (ak (bh (i:=2) dX.nd (ij (i:=0) fj (rm hr) (ae ar ai)))
 (ak (cU aap rfl (fS (ae ar ai) T.zdq) (aB (i:=3) dX.nd)
 (aw (cU aap rfl (bt (eJ (ae (df (ao eO) ["state","rows","order","at","dues","plan"] ["row","at"] [none,some 3] rfl (bt (aj 1)) (λY=>⟨(aB (i:=0) (show (["row","at"]:List Str).Nodup by decide+kernel)),bA,(aW aI aJ (aj 0) (bo f7 eE ar (aj 1)) (λ_ _=>rfl))⟩)) (ae (df (ao eO) ["state","rows","order","at","dues","plan"] ["row","at"] [none,some 3] rfl (bt (aj 1)) (λY=>⟨(aB (i:=0) (show (["row","at"]:List Str).Nodup by decide+kernel)),bA,(aW aI aJ (aj 0) (bo fF fG (bo f7 eE ar (aj 1)) ar) (λ_ _=>rfl))⟩)) ai)))) (aB (i:=4) dX.nd)
 (ak (bh (i:=5) dX.nd (aG iB (rm hr) (ae (aG fm (rm hr) (ae (aj 1) (ae (aj 4) (ae (aj 2) ai)))) (ae (aX (ae (aX (ae (aj 2) ai)) ai)) (ae (ij (i:=0) dh (rm hr) (ae ar ai)) ai)))))
 (aw (eD (DW.dt (CU (bF sW oG (aj 5) cq (bK _)) (Bo (bF Gd xP (aW aI aJ (aj 5) ar (λ_ _=>rfl)) nC (bK _))))) (aw (aT ox)) bM))))))
 (aw (aT ox))))
theorem P0 (T:Txt mg)(FL:JY K "law" "law" Ak f fd)(cO:Df K mg "greatest_divisor" cE)(pE:Df K mg "ratio" qc)(vj:Df K mg "plus" wZ)(pF:Df K mg "total" qd)(dY:Df K mg "common_bottom" d9)(jr:Df K mg "cards_at" jk)(kz:Df K mg "counted" kg)(l_:Df K mg "spread" mJ)(dZ:Df K mg "whole_weights" du)(jt:Df K mg "state_of" jl)(pG:Df K mg "begun" nR)(eR:Df K mg "deal_numbers" fb)(fE:Df K mg "mixed_state" fV)(eT:Df K mg "looked_state" dP)(kA:Df K mg "sums_of" jL)(d7:Df K mg "is_quiet_look" dQ)(g8:Df K mg "depth_in" gw)(gy:Df K mg "cards_told" gR)(iu:Df K mg "right_end" fc)(eh:Df K mg "look_within" eM)(fi:Df K mg "mix_within" fO)(eo:Df K mg "plan_within" eN)(md:Df K mg "fewest" jM)(eU:Df K mg "_law_cell_at" gT)(gz:Df K mg "_law_state" i7)(iy:Df K mg "_law_take" kh)(gA:Df K mg "_law_order" gU)(iz:Df K mg "_law_laid" jn)(iA:Df K mg "_law_rows" ki)(eV:Df K mg "_law_swapped" fW)(jv:Df K mg "_law_led" jN)(gD:Df K mg "_law_deals" gW)(d8:Df K mg "_law_two_deep" fX)(eW:Df K mg "_law_no_step" eO)(hp:∀ns:List Int,ns.length<=63->Aj [.scr (ns.map .int)]=.ok (.bl true)):mP P w K mg base yY 30 f fd ["script"] (zj K):=by
 have bR:=mV (P:=P) (w:=w) (base:=base) T  cO;have mO:=IY (P:=P) (w:=w) (base:=base) T bR pE;have CD:=LF (P:=P) (w:=w) (base:=base) T mO vj;have yI:=IZ (P:=P) (w:=w) (base:=base) T CD pF;have iM:=qj (P:=P) (w:=w) (base:=base) T bR dY;have gZ:=Aq (P:=P) (w:=w) (base:=base) T  jr;have qu:=Cc (P:=P) (w:=w) (base:=base) T  kz;have vl:=FJ (P:=P) (w:=w) (base:=base) T gZ qu l_;have iN:=qk (P:=P) (w:=w) (base:=base) T iM dZ;have g7:=Ar (P:=P) (w:=w) (base:=base) T mO jt;have yJ:=I0 (P:=P) (w:=w) (base:=base) T g7 pG;have dF:=rT (P:=P) (w:=w) (base:=base) T  eR;have j1:=uU (P:=P) (w:=w) (base:=base) T vl iN g7 dF fE;have dG:=rV (P:=P) (w:=w) (base:=base) T gZ eT;have qv:=Cd (P:=P) (w:=w) (base:=base) T yI dF kA;have iO:=qm (P:=P) (w:=w) (base:=base) T dG qv d7;have jw:=As (P:=P) (w:=w) (base:=base) T  g8;have kX:=vN (P:=P) (w:=w) (base:=base) T  gy;have ma:=yc (P:=P) (w:=w) (base:=base) T kX iu;have jy:=uW (P:=P) (w:=w) (base:=base) T dG iO j1 ma eh fi eo;have ny:=λn=>(jy n).1;have pH:=λn=>(jy n).2.1;have er:=λn=>(jy n).2.2;have iB:=FK (P:=P) (w:=w) (base:=base) T yJ er md;have ju:=rW (P:=P) (w:=w) (base:=base) T  eU;have yK:=vO (P:=P) (w:=w) (base:=base) T ju gz;have dh:=yd (P:=P) (w:=w) (base:=base) T  iy;have fj:=vQ (P:=P) (w:=w) (base:=base) T dh gA;have mf:=ye (P:=P) (w:=w) (base:=base) T  iz;have mj:=yf (P:=P) (w:=w) (base:=base) T  iA;have jx:=rX (P:=P) (w:=w) (base:=base) T  eV;have nZ:=Au (P:=P) (w:=w) (base:=base) T  jv;have fm:=vR (P:=P) (w:=w) (base:=base) T mf gD;have kZ:=qo (P:=P) (w:=w) (base:=base) T jw iB dh fj jx nZ fm d8;have vn:=rY (P:=P) (w:=w) (base:=base) T iB dh fj fm eW;refine O6 (f:=Aj) ?_ hp;refine JY.okD (N:=["script","k","state"]) (ps:=["script"]) (st:=Ak) (k:=29) SY .S IT FL Cb rfl (by decide) ?_;intro f cQ A outer s0 H E hr;have hu:=hr.units;have jz:=bG hr;exact (ak (cU aap rfl (fS (ae (bD (EI rfl) GU (by rfl) T.zlq Gz (ae ar (ae (bD (EJ rfl) GV (by rfl) T.zjq OS (ae (bD dC eZ (by rfl) T.zkq gc (ae (aj 0) ai)) (ae ar ai))) ai))) ai) T.zdq) (aB (i:=1) Cb.nd)
 (ak (eC (i:=2) Cb.nd (aG yK (rm hr) (ae (aj 0) (ae (aj 1) ai))))
 (ak (eD (xq (tJ (ij (i:=2) kZ (rm hr) (Hi (aF ar (aF (aG mj (rm hr) (ae (aX ai) ai)) (aF (eJ (Hi (aF ar (aF ar (aF ar (aF ar gh)))))) (aF (eJ (ae (aX (ae ar (ae ar ai))) (ae (aX (ae ar (ae ar ai))) ai))) gh)))))))) (aw (aT ox)) bM)
 (ak (eD (xq (tJ (ij (i:=2) kZ (rm hr) (Hi (aF ar (aF (aG mj (rm hr) (ae (aX (ae ar (ae ar ai))) ai)) (aF (eJ (Hi (aF ar (aF ar (aF ar (aF ar gh)))))) (aF (eJ (ae (aX (ae ar (ae ar ai))) (ae (aX (ae ar (ae ar ai))) (ae (aX (ae ar (ae ar ai))) ai)))) gh)))))))) (aw (aT ox)) bM)
 (aw (eD (xq (tJ (ij (i:=2) vn (rm hr) (ae (aG mj (rm hr) (ae (aX ai) ai)) ai)))) (aw (aT ox)) bM))))))
 (aw (aT ox)))
end
inductive lj (K:ZN)(x:Str)(st:adh):Prop
 |mk {f:Z_} {od an:Option Z_} {sl:Array (Option ZR)} {oc kV dc pm cd ct:ZR}:abB K aaF x=some (some (.ref f))->K.lookup f=some ⟨oc,od,.func (abA x x (gb st) (cP st) (ao st) .none kV dc pm an cd ct),sl⟩->aeO K cd x=true->acA K (.ref f)=true->lj K x st
theorem bZ (q:lj K x st)(X:K.In h)(G:h.Ns aaF mg):Df K mg x st:=by
 obtain⟨a,l,c,k⟩:=q;exact⟨_,_,PySem.W.mg_of X G a,Gj (st:=st) l c k⟩
theorem all_mk {fa:Z_}(X:K.In h)(G:h.Ns aaF mg)(YI:mg "law"=some (.ref fa))(q0:lj K "greatest_divisor" cE)(q1:lj K "ratio" qc)(q2:lj K "plus" wZ)(q3:lj K "total" qd)(q4:lj K "common_bottom" d9)(q5:lj K "cards_at" jk)(q6:lj K "counted" kg)(q7:lj K "spread" mJ)(q8:lj K "whole_weights" du)(q9:lj K "state_of" jl)(YJ:lj K "begun" nR)(YK:lj K "deal_numbers" fb)(YL:lj K "mixed_state" fV)(YM:lj K "looked_state" dP)(YN:lj K "sums_of" jL)(YO:lj K "is_quiet_look" dQ)(YQ:lj K "depth_in" gw)(YR:lj K "cards_told" gR)(YS:lj K "right_end" fc)(YT:lj K "look_within" eM)(YU:lj K "mix_within" fO)(YV:lj K "plan_within" eN)(YW:lj K "fewest" jM)(YX:lj K "_law_cell_at" gT)(YY:lj K "_law_state" i7)(YZ:lj K "_law_take" kh)(Y0:lj K "_law_order" gU)(Y1:lj K "_law_laid" jn)(Y2:lj K "_law_rows" ki)(Y3:lj K "_law_swapped" fW)(Y4:lj K "_law_led" jN)(Y5:lj K "_law_deals" gW)(Y6:lj K "_law_two_deep" fX)(Y7:lj K "_law_no_step" eO)(Y8:lj K "law" Ak)(zgq:abB K aaF "abs"=some none)(ziq:abB K aaF "all"=some none)(zaq:abB K aaF "enumerate"=some none)(zkq:abB K aaF "len"=some none)(zeq:abB K aaF "list"=some none)(zlq:abB K aaF "max"=some none)(zjq:abB K aaF "min"=some none)(zdq:abB K aaF "range"=some none)(zfq:abB K aaF "set"=some none)(zbq:abB K aaF "sorted"=some none)(zcq:abB K aaF "tuple"=some none)(zhq:abB K aaF "zip"=some none)(hp:∀ns:List Int,ns.length<=63->Aj [.scr (ns.map .int)]=.ok (.bl true))
  : ∃fd:aeh,(∀(s:Z5) (v:ZR),BindsTo s fd ⟨[v],[]⟩ [("script",v)])/\∀base:acz,K.In base->base.Ns aaF mg->mP PySem.Challenge.pw_hushcards_k73_known_least_ones w K mg base yY 30 fa fd ["script"] (zj K):=by
 obtain @⟨f_,od_,an34,sl_,oc_,kV34,dc34,pm34,cd34,ct34,a34,l34,c34,k34⟩:=Y8;have e:=YI.symm.trans (PySem.W.mg_of X G a34);cases e;have T:Txt mg:=⟨aaK X G zgq,aaK X G ziq,aaK X G zaq,aaK X G zkq,aaK X G zeq,aaK X G zlq,aaK X G zjq,aaK X G zdq,aaK X G zfq,aaK X G zbq,aaK X G zcq,aaK X G zhq⟩;have cO:=bZ q0 X G;have pE:=bZ q1 X G;have vj:=bZ q2 X G;have pF:=bZ q3 X G;have dY:=bZ q4 X G;have jr:=bZ q5 X G;have kz:=bZ q6 X G;have l_:=bZ q7 X G;have dZ:=bZ q8 X G;have jt:=bZ q9 X G;have pG:=bZ YJ X G;have eR:=bZ YK X G;have fE:=bZ YL X G;have eT:=bZ YM X G;have kA:=bZ YN X G;have d7:=bZ YO X G;have g8:=bZ YQ X G;have gy:=bZ YR X G;have iu:=bZ YS X G;have eh:=bZ YT X G;have fi:=bZ YU X G;have eo:=bZ YV X G;have md:=bZ YW X G;have eU:=bZ YX X G;have gz:=bZ YY X G;have iy:=bZ YZ X G;have gA:=bZ Y0 X G;have iz:=bZ Y1 X G;have iA:=bZ Y2 X G;have eV:=bZ Y3 X G;have jv:=bZ Y4 X G;have gD:=bZ Y5 X G;have d8:=bZ Y6 X G;have eW:=bZ Y7 X G;have FL:=Gj (st:=Ak) l34 c34 k34;refine⟨abA "law" "law" (gb Ak) (cP Ak) (ao Ak) .none kV34 dc34 pm34 an34 cd34 ct34,λs v=>.of_eq rfl,λbase _ _=>?_⟩;exact P0 (P:=PySem.Challenge.pw_hushcards_k73_known_least_ones) (w:=w) (base:=base) T  FL cO pE vj pF dY jr kz l_ dZ jt pG eR fE eT kA d7 g8 gy iu eh fi eo md eU gz iy gA iz iA eV jv gD d8 eW hp
end Hc
namespace Hc
open L2
end Hc
namespace Hc
open L2
theorem NN {f:Bool->Bool}{u w:U}:jC f u w=(PH u w).bind λb=>.ok (.bl (f b)):=nr rfl
theorem eG {a b:Int}:PH (.int a) (.int b)=.ok (a==b):=nr rfl
theorem I_ {a b:Bool}:PH (.bl a) (.bl b)=.ok (a==b):=nr rfl
theorem mK {a b:Str}:PH (.str a) (.str b)=.ok (a==b):=nr rfl
theorem cg:type_of% @ZI.{0,0}/\type_of% @aaI.{0,0}/\type_of% @Z0.{0}/\type_of% @abM.{0}/\type_of% @ab6.{0}/\type_of% @acJ.{0}/\type_of% @ab2.{0}/\type_of% @List.replicate_zero.{0}/\type_of% @List.getElem?_cons_zero.{0}/\type_of% @aaR.{0}/\type_of% @List.set_cons_zero.{0}/\type_of% @List.set_cons_succ.{0}/\type_of% @ade.{0}/\type_of% @Option.getD_none.{0}/\type_of% @if_true.{1}/\type_of% @if_false.{1}/\type_of% @aaq/\type_of% @MY/\type_of% @aaz/\type_of% @abu/\type_of% @NN/\type_of% @eG/\type_of% @I_/\type_of% @mK:=
 ⟨@ZI.{0,0},@aaI.{0,0},@Z0.{0},@abM.{0},@ab6.{0},@acJ.{0},@ab2.{0},@List.replicate_zero.{0},@List.getElem?_cons_zero.{0},@aaR.{0},@List.set_cons_zero.{0},@List.set_cons_succ.{0},@ade.{0},@Option.getD_none.{0},@if_true.{1},@if_false.{1},@aaq,@MY,@aaz,@abu,@NN,@eG,@I_,@mK⟩
end Hc
namespace Hc.Cn
open L2 Hc.Ts
abbrev Rw:=List Int
abbrev Dc:=List (Rw×Int)
def jZ (d:Dc)(k:Rw):Int:=((d.find? λp=>decide (p.1=k)).map (·.2)).getD 0
def km (d:Dc)(k:Rw)(v:Int):Dc:=if k∈d.map (·.1) then d.map (λp=>if p.1=k then (p.1,v) else p) else d++[(k,v)]
def kS (d:Dc)(k:Rw)(w:Int):Dc:=km d k (jZ d k+w)
def j0 (d:Dc)(f:Rw->Int):Int:=(d.map λp=>p.2*f p.1).sum
def Nd (d:Dc):Prop:=(d.map (·.1)).Nodup
def Ps (d:Dc):Prop:=∀p∈d,1<=p.2
theorem i8 (p:Rw×Int)(d:Dc)(k:Rw):jZ (p::d) k=if p.1=k then p.2 else jZ d k:=by
 unfold jZ;rw[aaX];by_cases c:p.1=k
 ·rw[hG c,hZ c];rfl
 ·rw[hJ c,hV c]
theorem kn:∀{d:Dc} {k:Rw},k∉d.map (·.1)->jZ d k=0
 | [],_,_=>rfl
 |p::d,k,h=>by
  rw[ZI,ZX,not_or] at h;rw[i8,hV (λe=>h.1 e.symm),kn h.2]
theorem w9 {d:Dc}{k:Rw}(h:k∈d.map (·.1)):(k,jZ d k)∈d:=by
 induction d with
 |nil=>cases h
 |cons q d ih=>
  rw[i8];by_cases c:q.1=k
  ·rw[hZ c,←c];exact ZG
  ·rw[hV c];rw[ZI,ZX] at h;rcases h with h|h
   ·exact absurd h.symm c
   ·exact ZK _ (ih h)
theorem pb (d:Dc)(k:Rw)(v:Int):(km d k v).map (·.1)=if k∈d.map (·.1) then d.map (·.1) else d.map (·.1)++[k]:=by
 unfold km;split
 ·rw[ZY];apply Z2;intro p _;show (if p.1=k then (p.1,v) else p).1=p.1;split<;>rfl
 ·rw[aad];rfl
theorem Ja {d:Dc}(k:Rw)(v:Int)(h:Nd d):Nd (km d k v):=by
 unfold Nd at h ⊢;rw[pb];split
 ·exact h
 ·rename_i c;exact aa_.mpr ⟨h,by simp,λa ha b hb=>by
   rw[Z1] at hb;subst hb;exact λe=>c (e▸ha)⟩
theorem P2 {d:Dc}{k:Rw}{v:Int}(h:Ps d)(hv:1<=v):Ps (km d k v):=by
 unfold km;intro p hp;split at hp
 ·obtain⟨q,hq,rfl⟩:=ZO.mp hp;split
  ·exact hv
  ·exact h q hq
 ·rcases aam.mp hp with hp|hp
  ·exact h p hp
  ·rw[Z1] at hp;subst hp;exact hv
theorem Av {d:Dc}(h:Ps d)(k:Rw):0<=jZ d k:=by
 by_cases c:k∈d.map (·.1)
 ·have:=h _ (w9 c);lia
 ·rw[kn c];exact ad0 _
theorem sum_append (a b:List Int):(a++b).sum=a.sum+b.sum:=List.sum_append
theorem Aw:∀{d:Dc} {k:Rw} {v:Int} (f:Rw->Int),Nd d->k∈d.map (·.1)->j0 (d.map λp=>if p.1=k then (p.1,v) else p) f=j0 d f+(v-jZ d k)*f k
 |q::d,k,v,f,n,h=>by
  unfold Nd at n;rw[ZI,aax] at n;unfold j0;rw[ZI,ZI,ZI,aaf,aaf,i8];by_cases c:q.1=k
  ·rw[hZ c,hZ c];have e:(d.map λp=>if p.1=k then (p.1,v) else p)=d:=by
    conv=>rhs;rw[←List.map_id d]
    apply Z2;intro p hp;rw[hV (λz=>n.1 (by rw[c,←z];exact aaB hp))];rfl
   rw[e,c];show v*f k+_=q.2*f k+_+(v-q.2)*f k;rw[Int.sub_mul];lia
  ·rw[hV c,hV c];have h':k∈d.map (·.1):=by
    rw[ZI,ZX] at h;rcases h with h|h
    ·exact absurd h.symm c
    ·exact h
   have:=Aw (v:=v) f n.2 h';unfold j0 at this;rw[this];lia
theorem Ax {d:Dc}(k:Rw)(w:Int)(f:Rw->Int)(n:Nd d):j0 (kS d k w) f=j0 d f+w*f k:=by
 unfold kS km;split
 ·rename_i c;rw[Aw f n c];congr 2;lia
 ·rename_i c;unfold j0;rw[aad,sum_append,kn c];simp
def bu (d:Dc)(ws:List (Rw×Int)):Dc:=ws.foldl (λd p=>kS d p.1 p.2) d
theorem w_:∀(ws:List (Rw×Int)) {d:Dc},Nd d->Ps d->(∀p∈ws,1<=p.2)->Nd (bu d ws)/\Ps (bu d ws)/\∀f,j0 (bu d ws) f=j0 d f+(ws.map λp=>p.2*f p.1).sum
 | [],d,n,p,_=>⟨n,p,λf=>by show j0 d f=_;simp⟩
 |q::ws,d,n,p,h=>by
  have n1:Nd (kS d q.1 q.2):=Ja _ _ n;have p1:Ps (kS d q.1 q.2):=P2 p (by have:=Av p q.1;have:=h q ZG;lia);obtain⟨a,b,c⟩:=w_ ws n1 p1 λx hx=>h x (ZK _ hx);refine⟨a,b,λf=>?_⟩;show j0 (bu (kS d q.1 q.2) ws) f=_;rw[c f,Ax _ _ _ n,ZI,aaf];lia
theorem Jb {d:Dc}(n:Nd d)(k:Rw):j0 d (λx=>if x=k then 1 else 0)=jZ d k:=by
 induction d with
 |nil=>rfl
 |cons q d ih=>
  have n':=n;unfold Nd at n';rw[ZI,aax] at n';have:=ih n'.2;unfold j0 at this ⊢;rw[ZI,aaf,this,i8];show q.2*(if q.1=k then 1 else 0)+_=_;by_cases c:q.1=k
  ·rw[hZ c,hZ c,kn (c▸n'.1)];lia
  ·rw[hV c,hV c];lia
def LG (d:Dc):Int:=(d.map (·.2)).sum
theorem Jc {a b:List Int}(p:a.Perm b):a.sum=b.sum:=by
 induction p with
 |nil=>rfl
 |cons x _ ih=>rw[aaf,aaf,ih]
 |swap x y l=>rw[aaf,aaf,aaf,aaf];lia
 |trans _ _ i1 i2=>rw[i1,i2]
theorem vS {a b:List Rw}(p:a.Perm b):eF a=eF b:=sL (((aM a).trans p).trans (aM b).symm) (lT a) (lT b)
def ez (l:List Rw):Dc:=bu [] (l.map λx=>(x,1))
theorem Ce:Nd []/\Ps []:=⟨abi,λp hp=>by cases hp⟩
theorem uX (l:List Rw):Nd (ez l)/\Ps (ez l)/\∀f,j0 (ez l) f=(l.map f).sum:=by
 obtain⟨a,b,c⟩:=w_ (l.map λx=>(x,(1:Int))) Ce.1 Ce.2 λp hp=>by
  obtain⟨x,_,rfl⟩:=ZO.mp hp;exact ad0 _
 refine⟨a,b,λf=>?_⟩;have:=c f;rw[ZY] at this;unfold ez;rw[this];show (0:Int)+_=_;rw[aeM];congr 1;apply Z2;intro x _;show 1*f x=f x;lia
theorem pd {α β:Type}(g:α->List β)(h:β->Int):∀l:List α,((l.flatMap g).map h).sum=(l.map λa=>((g a).map h).sum).sum
 | []=>rfl
 |a::l=>by rw[abG,aad,sum_append,ZI,aaf,pd g h l]
theorem D4 (k:Int):∀l:List Int,(l.map λx=>k*x).sum=k*l.sum
 | []=>by simp
 |x::l=>by rw[ZI,aaf,aaf,D4 k l,Int.mul_add]
theorem D5 (l:List Rw):LG (ez l)=l.length:=by
 obtain⟨n,p,s⟩:=uX l;have:=s λ_=>1;unfold j0 at this;unfold LG;have e:((ez l).map λp=>p.2*1)=(ez l).map (·.2):=by
  apply Z2;intro p _;lia
 rw[e] at this;rw[this];clear this e s p n
 induction l with
 |nil=>rfl
 |cons x l ih=>rw[ZI,aaf,ih,Z0];lia
theorem P4 {l:List Int}(h:∀x∈l,0<=x):∀x∈l,x<=l.sum:=by
 induction l with
 |nil=>intro x hx;cases hx
 |cons y l ih=>
  intro x hx;have hl:0<=l.sum:=by
   clear ih hx
   induction l with
   |nil=>exact ad0 _
   |cons z l ih2=>
    rw[aaf];have:=ih2 λw hw=>h w (by rcases ZX.mp hw with e|e;exact e▸ZG;exact ZK _ (ZK _ e));have:=h z (ZK _ ZG);lia
  rw[aaf];rcases ZX.mp hx with rfl|hx
  ·lia
  ·have:=ih (λw hw=>h w (ZK _ hw)) x hx;have:=h y ZG;lia
theorem P5 {d:Dc}(p:Ps d):∀q∈d,q.2<=LG d:=λq hq=>P4 (λx hx=>by
 obtain⟨r,hr,rfl⟩:=ZO.mp hx;have:=p r hr;lia) q.2 (aaB hq)
end Hc.Cn
variable {d:Hc.Cn.Dc}
namespace Hc
open L2
open Hc.Cn Hc.Ts
theorem NS:(0:Nat)<=ZL/\(1:Nat)<=ZL/\(2:Nat)<=ZL/\(3:Nat)<=ZL/\(4:Nat)<=ZL/\(5:Nat)<=ZL/\(6:Nat)<=ZL/\(10:Nat)<=ZL/\(16:Nat)<=ZL/\(18:Nat)<=ZL/\(22:Nat)<=ZL:=by decide
theorem Pzz:type_of% @aE∧type_of% @cg∧type_of% @NS:=⟨@aE,@cg,@NS⟩
theorem bI {α:Type}{f:U->R (Option U)}{c g:α->U}:∀{xs:List α},(∀x∈xs,f (c x)=.ok (some (g x)))->AX f (xs.map c)=.ok (xs.map g)
 | [],_=>rfl
 |x::xs,h=>by
  rw[ZI,ZI];unfold AX;rw[h x ZG];show (AX f (xs.map c)).bind _=_;rw[bI λy hy=>h y (ZK _ hy)];rfl
theorem S0 {ws:List U}:sH (.lst us) [.lst ws]=if us.length+ws.length<=ZL then .ok (.non,.lst (us++ws)) else .stk:=nr rfl
def A5 (s:U):Prop:=∃v b,s=.lst [.int v,.bl b]/\0<=v/\(b=false->v<2147483647)
theorem yg {s:U}{m:Int}(h:A5 s)(h0:0<m)(h1:m<18446744073709551616):∃r s',bW [s,.int m]=.ok (.int r,s')/\0<=r/\r<m/\A5 s':=by
 obtain⟨v,b,rfl,hv,hb⟩:=h;cases b with
 |true=>
  refine⟨v % m,.lst [.int (v / m),.bl true],?_,acn _ (by lia),abP _ h0,v / m,true,rfl,Int.ediv_nonneg hv (by lia),λh=>nomatch h⟩;simp only[bW,jK,Pzz,bO,Nat.reduceAdd,Nat.reduceSub,hG h0,xB h0 h1,DJ]
 |false=>
  have g1:0<=(v*48271+29) % 2147483647:=acn _ (by decide);have g2:(v*48271+29) % 2147483647<2147483647:=abP _ (by decide);have c1:k_ v 48271=true:=nH (by decide) (by decide);have d1:decide ((0:Int)<2147483647)=true:=by decide
  have d2:decide ((0:Int)<2147483629)=true:=by decide
  have d3:decide ((0:Int)<2147483587)=true:=by decide
  have e8:Bt (((((v*48271+29) % 2147483647)*((v*48271+29) % 2147483647)+39373*((v*48271+29) % 2147483647)+7) % 2147483629*((((v*48271+29) % 2147483647)*((v*48271+29) % 2147483647)+39373*((v*48271+29) % 2147483647)+7) % 2147483629)+16807*((((v*48271+29) % 2147483647)*((v*48271+29) % 2147483647)+39373*((v*48271+29) % 2147483647)+7) % 2147483629)) % 2147483587) 8=true:=xB (by decide) (by decide);have c2:k_ ((v*48271+29) % 2147483647) ((v*48271+29) % 2147483647)=true:=xC g1 (by lia);have c3:k_ 39373 ((v*48271+29) % 2147483647)=true:=xC (by decide) (by decide);generalize hs:(v*48271+29) % 2147483647=s1 at *;have g3:0<=(s1*s1+39373*s1+7) % 2147483629:=acn _ (by decide);have g4:(s1*s1+39373*s1+7) % 2147483629<2147483629:=abP _ (by decide);have c4:k_ ((s1*s1+39373*s1+7) % 2147483629) ((s1*s1+39373*s1+7) % 2147483629)=true:=xC g3 (by lia);have c5:k_ 16807 ((s1*s1+39373*s1+7) % 2147483629)=true:=xC (by decide) (by decide);refine⟨((s1*s1+39373*s1+7) % 2147483629*((s1*s1+39373*s1+7) % 2147483629)+16807*((s1*s1+39373*s1+7) % 2147483629)) % 2147483587 / 8 % m,.lst [.int s1,.bl false],?_,acn _ (by lia),abP _ h0,s1,false,rfl,g1,λ_=>g2⟩
  ·simp only[bW,jK,Pzz,bO,Nat.reduceAdd,Nat.reduceSub,hG h0,c1,d1,d2,d3,hs,c2,c3,c4,c5,e8,DJ]
theorem Jd {us:List U}{k:Int}(hu:u=.scr (ns.map .int)\/u=.lst (ns.map .int))(h0:0<=k):∃s,gq [u,.int k]=.ok s/\A5 s:=by
 obtain⟨k,rfl⟩:∃n:Nat,k=n:=⟨k.toNat,by lia⟩;have EA:∃c:Int,dE [u,.int k]=.ok (.int c):=by
  by_cases hk:k<ns.length
  ·refine⟨ns[k],?_⟩;have d:decide ((k:Int)<((ns.map U.int).length:Nat))=true:=by rw[ZF];exact hG (by lia)
   have e:pJ (ns.map U.int) (k:Int)=some (.int ns[k]):=by rw[ft,ZT,ZH hk];rfl
   rcases hu with rfl|rfl<;>simp only[dE,gm,Pzz,bO,Nat.reduceAdd,Nat.reduceSub,d,e]
  ·refine⟨0,?_⟩;have d:decide ((k:Int)<((ns.map U.int).length:Nat))=false:=by rw[ZF];exact hJ (by lia)
   rcases hu with rfl|rfl<;>simp only[dE,gm,Pzz,bO,Nat.reduceAdd,Nat.reduceSub,d]
 obtain⟨c,hc⟩:=EA;have XA:KP 10 18=true:=by decide
 have XB:(10:Int) ^ (18:Int).toNat=1000000000000000000:=by decide
 have dm:decide ((0:Int)<2147483647)=true:=by decide
 by_cases h:1000000000000000000<=c
 ·refine⟨.lst [.int (c-1000000000000000000),.bl true],?_,_,true,rfl,by lia,λh=>nomatch h⟩;simp only[gq,iV,Pzz,bO,Nat.reduceAdd,Nat.reduceSub,hc,XA,XB,hG h,hZ]
 ·refine⟨.lst [.int (c % 2147483647),.bl false],?_,_,false,rfl,acn _ (by decide),λ_=>abP _ (by decide)⟩;simp only[gq,iV,Pzz,bO,Nat.reduceAdd,Nat.reduceSub,hc,XA,XB,hJ h,dm,hZ]
theorem uY {α:Type}:∀(l:List α) (i:Nat) (h:i<l.length),(l[i]::l.eraseIdx i).Perm l
 |x::l,0,_=>abj _
 |x::l,i+1,h=>by
  have h':i<l.length:=by simpa using h
  show (l[i]::x::l.eraseIdx i).Perm (x::l);exact (List.Perm.swap _ _ _).trans (List.Perm.cons x (uY l i h'))
theorem pf {α β:Type}(f:α->β):∀(l:List α) (i:Nat),(l.map f).eraseIdx i=(l.eraseIdx i).map f
 | [],_=>rfl
 |_::_,0=>rfl
 |x::l,i+1=>by
  show f x::(l.map f).eraseIdx i=f x::(l.eraseIdx i).map f;rw[pf f l i]
theorem P6 {k:Int}{y:U}(h1:aeZ k us.length=some j)(h2:us[j]? = some y)(h3:0<=k)(h4:k<1000000000):pV (.lst us) [.int k]=.ok (y,.lst (us.eraseIdx j)):=by
 unfold pV;dsimp only;rw[hZ (by lia),h1];dsimp only;rw[h2]
def br (n:Nat)(os:List Int):Prop:=os.Perm (az n)
theorem Ay {s:U}(h:A5 s)(h1:m<=1000):∃(os:List Int) (s':U),cw [s,.int m]=.ok (.tup (os.map .int),s')/\br m os/\A5 s':=by
 obtain⟨ys,⟨left,s'⟩,e,l,os,hr,hp,hs'⟩:=zH (G:=kO) (js:=[none,some 2,some 0]) (sg:=ba 0) (ge:=gM "list" 1 pV (af (FY 2 2 bW (af (iD gf (af (ag 1) au)) au)) au))
  (λx:List Int×U=>[some x.2,some (.int m),some (.lst (x.1.map .int))]) m (λys x=>∃os:List Int,ys=os.map .int/\(os++x.1).Perm (az m)/\A5 x.2)
  (λdone u x hd h00=>by
   obtain⟨os,hr,hp,hs⟩:=h00;obtain⟨left,s⟩:=x;have hl:0<left.length:=by
    have:=hp.length_eq;rw[Z3,kJ] at this;have h2:done.length=os.length:=by rw[hr,ZF]
    dsimp only at this;lia
   have Oa:left.length<=m:=by
    have:=hp.length_eq;rw[Z3,kJ] at this;dsimp only at this;lia
   obtain⟨r,s',b1,b2,b3,b4⟩:=yg (m:=left.length) hs (by lia) (by lia);obtain⟨k,rfl⟩:∃n:Nat,r=n:=⟨r.toNat,by lia⟩;have hk:k<left.length:=by lia
   refine⟨[some u,some (.lst (left.map .int)),some s],.int left[k],[some u,some (.lst ((left.eraseIdx k).map .int)),some s'],(left.eraseIdx k,s'),rfl,?_,rfl,os++[left[k]],by rw[hr,aad];rfl,?_,b4⟩
   ·have hx:aeZ (k:Int) (left.map U.int).length=some k:=by
     unfold aeZ;rw[ZF];simp;lia
    have hy:(left.map U.int)[k]? = some (.int left[k]):=by rw[ZT,ZH hk];rfl
    have pp:=P6 hx hy (by lia) (by lia);rw[pf] at pp;simp only[Pzz,bO,Nat.reduceAdd,Nat.reduceSub,ZF,b1,pp]
   ·rw[abD];refine List.Perm.trans (ad6 os ?_) hp;exact uY left k hk) (aY 0 m) [] (az m,s) (by rw[fK];simp) ⟨[],rfl,abj _,h⟩
 rw[fK] at l;have ln:os.length=m:=by
  have:=congrArg List.length hr;rw[acJ,ZF] at this;lia
 have le:left=[]:=by
  have:=hp.length_eq;rw[Z3,kJ] at this;dsimp only at this;exact acy (by lia)
 subst le;rw[aaW] at hp;rw[acJ] at hr;dsimp only at e;refine⟨os,s',?_,hp,hs'⟩;rw[hr] at e;simp only[cw,kP,Pzz,bO,Nat.reduceAdd,Nat.reduceSub,jW m (by lia),DB m (by lia),lP] at e ⊢;simp only[Pzz,bO,Nat.reduceAdd,Nat.reduceSub,e]
theorem jo (n:Nat):aY 0 n=(ZU n).map λi=>U.int (i:Nat):=by
 rw[lP];unfold az;rw[ZY];rfl
def DU (d:Dc):U:=.dct (d.map λp=>ah p.1) (d.map λp=>.int p.2)
def yh (d:Dc):List U:=d.map λp=>ah p.1
def Je (d:Dc):List U:=d.map λp=>U.int p.2
theorem D6:∀{a b:List Int},a.map U.int=b.map U.int->a=b
 | [],[],_=>rfl
 | [],_::_,h=>by cases h
 |_::_,[],h=>by cases h
 |x::a,y::b,h=>by
  rw[ZI,ZI] at h;injection h with h1 h2
  cases h1;rw[D6 h2]
theorem eP {a b:List Int}:ah a=ah b↔a=b:=by
 constructor
 ·intro h;unfold ah at h;injection h with h
  exact D6 h
 ·intro h;rw[h]
theorem yi {k:List Int}:ah k∈yh d↔k∈d.map (·.1):=by
 unfold yh;constructor
 ·intro h;obtain⟨p,hp,e⟩:=ZO.mp h;rw[←eP.mp e];exact aaB hp
 ·intro h;obtain⟨p,hp,rfl⟩:=ZO.mp h;exact aaB hp
theorem P7 (d:Dc)(k:List Int)(v:Int):dv (yh d) (ah k)=yh (km d k v):=by
 unfold dv;have e:yh (km d k v)=((km d k v).map (·.1)).map ah:=by unfold yh;rw[ZY];rfl
 rw[e,pb];by_cases c:k∈d.map (·.1)
 ·rw[hZ (yi.mpr c),hZ c];unfold yh;rw[ZY];rfl
 ·rw[hV (λz=>c (yi.mp z)),hV c,aad];unfold yh;rw[ZY];rfl
theorem Jf (k:List Int)(v:Int):∀d:Dc,abe (λa u=>if a=ah k then U.int v else u) (yh d) (Je d)=Je (d.map λp=>if p.1=k then (p.1,v) else p)
 | []=>rfl
 |p::d=>by
  have ih:=Jf k v d;unfold yh Je at ih ⊢;rw[ZI,ZI,ZI,ZI,aaH,ih];congr 1;by_cases c:p.1=k
  ·rw[hZ (eP.mpr c),hZ c]
  ·rw[hV (λz=>c (eP.mp z)),hV c]
theorem P8 (d:Dc)(k:List Int)(v:Int):cx (yh d) (Je d) (ah k) (.int v)=Je (km d k v):=by
 unfold cx km;by_cases c:k∈d.map (·.1)
 ·rw[hZ (yi.mpr c),hZ c,Jf]
 ·rw[hV (λz=>c (yi.mp z)),hV c];unfold Je;rw[aad];rfl
theorem Jg (k:List Int):∀d:Dc,cX (yh d) (Je d) (ah k)=if k∈d.map (·.1) then some (.int (jZ d k)) else none
 | []=>rfl
 |p::d=>by
  have ih:=Jg k d;unfold yh Je at ih ⊢;rw[ZI,ZI];unfold cX;rw[ih,i8];by_cases c:p.1=k
  ·rw[hZ (eP.mpr c),hZ (by rw[ZI,c];exact ZG),hZ c]
  ·rw[hV (λz=>c (eP.mp z)),hV c];by_cases c2:k∈d.map (·.1)
   ·rw[hZ c2,hZ (by rw[ZI];exact ZK _ c2)]
   ·rw[hV c2,hV (by rw[ZI,ZX,not_or];exact⟨λz=>c z.symm,c2⟩)]
theorem Az:∀l:List Int,zy (l.map U.int)=true
 | []=>rfl
 |x::l=>by rw[ZI];unfold zy;rw[Az l];rfl
theorem AA:∀l:List Int,vz (l.map U.int)=0
 | []=>rfl
 |x::l=>by rw[ZI];unfold vz;rw[AA l];rfl
theorem ko (k:List Int):oK (ah k)=true:=by
 show (zy (k.map U.int)&&decide (vz (k.map U.int)<=6))=true;rw[Az,AA];rfl
theorem S1 (d:Dc):(yh d).all G3=true:=aag.mpr λu hu=>by
 obtain⟨p,_,rfl⟩:=ZO.mp hu;rfl
theorem S2 (d:Dc):(yh d).all Pt=true:=aag.mpr λu hu=>by
 obtain⟨p,_,rfl⟩:=ZO.mp hu;rfl
theorem D7 (d:Dc)(k:List Int):nF (yh d) (ah k)=true:=by
 unfold nF;rw[ko,S1];exact Bool.or_true _
theorem Jh (h:d≠[]):BQ (yh d)=true:=by
 unfold BQ;rw[S2];cases d with
 |nil=>exact absurd rfl h
 |cons=>rfl
def Vv (i:Nat)(v k:U)(ρ:Ev)(o:Option (Option U)):SR:=match o with
 |some (some (.dct ks us))=>if nF ks k=true/\us.length<ZL then .nx (ρ.set i (some (.dct (dv ks k) (cx ks us k v)))) else .stk
 |_=>.stk
theorem Cf {gv gk:Ev->R (U×Ev)}:lK i gv gk ρ=SR.of (gv ρ) λx=>if Dq x.2[i]? = true then SR.of (gk x.2) λy=>Vv i x.1 y.1 y.2 y.2[i]? else .stk:=nr rfl
theorem yj (h:d.length<1000000){v:Int}{k:List Int}:Vv i (.int v) (ah k) ρ (some (some (DU d)))=.nx (ρ.set i (some (DU (km d k v)))):=by
 have sz:ZL=16777216:=rfl;have:Vv i (.int v) (ah k) ρ (some (some (DU d)))=.nx (ρ.set i (some (.dct (dv (yh d) (ah k)) (cx (yh d) (Je d) (ah k) (.int v))))):=hZ ⟨D7 d k,by show (Je d).length<_;unfold Je;rw[ZF,sz];lia⟩;rw[this,P7 d k v,P8];rfl
def Vw (k x:U)(ρ:Ev)(o:Option (Option U)):R (U×Ev):=match o with
 |some (some (.dct ks us))=>if nF ks k=true then .ok ((cX ks us k).getD x,ρ) else .stk
 |_=>.stk
def WX (i:Nat)(g2 g3:Ev->R (U×Ev))(ρ:Ev)(o:Option (Option U)):R (U×Ev):=match o with
 |some (some (.dct _ _))=>(g2 ρ).bind λk=>(g3 k.2).bind λx=>Vw k.1 x.1 x.2 x.2[i]?
 |_=>.stk
theorem yk {g2 g3:Ev->R (U×Ev)}:jS i g2 g3 ρ=WX i g2 g3 ρ ρ[i]? := nr rfl
theorem ym {g2 g3:Ev->R (U×Ev)}:WX i g2 g3 ρ (some (some (DU d)))=(g2 ρ).bind λk=>(g3 k.2).bind λx=>Vw k.1 x.1 x.2 x.2[i]? := nr rfl
theorem yn {k:List Int}:Vw (ah k) (.int 0) ρ (some (some (DU d)))=.ok (.int (jZ d k),ρ):=by
 refine (hZ (D7 d k)).trans ?_;rw[show cX (d.map λp=>ah p.1) (d.map λp=>.int p.2) (ah k)=_ from Jg k d];split
 ·rfl
 ·rename_i c;rw[kn c];rfl
theorem kT (ws:List (List Int×Int)):(bu [] ws).length<=ws.length:=by
 have:∀(ws:List (List Int×Int)) (d:Dc),(bu d ws).length<=d.length+ws.length:=by
  intro ws
  induction ws with
  |nil=>intro d;exact ZS _
  |cons p ws ih=>
   intro d;have h1:=ih (kS d p.1 p.2);have h2:(kS d p.1 p.2).length<=d.length+1:=by
    unfold kS km;split
    ·rw[ZF];lia
    ·rw[Z3,abp];exact ZS _
   rw[Z0];show (bu (kS d p.1 p.2) ws).length<=_;lia
 have:=this ws [];simpa using this
theorem rn (d:Dc)(ws:List (List Int×Int))(p:List Int×Int):bu d (ws++[p])=kS (bu d ws) p.1 p.2:=by
 unfold bu;rw[ae4];rfl
def SU (ss:List (List Int)):U:=.tup (ss.map ah)
theorem Ji {s:Nat}{x:U}(ss:List (List Int))(hl:ss.length<100000)(mk:Dc->Option U->Ev)(step:∀(d:Dc) (o:Option U) (k:List Int),d.length<1000000->∃ρ1,ba j (ah k) (mk d o)=.ok ρ1/\lK i (aU jR (jS i (ag j) (gC (.int 0))) (gC (.int 1))) (ag j) ρ1=.nx (mk (km d k (jZ d k+1)) (some (ah k))))(o:Option U) :
  ∃o',bY (ba j) (lK i (aU jR (jS i (ag j) (gC (.int 0))) (gC (.int 1))) (ag j)) (ss.map ah) (mk [] o)=.nx (mk (ez ss) o'):=by
 obtain⟨ρ',e1,o',e2⟩:=cZ (us:=ss.map ah) (sg:=ba j) (s:=lK i (aU jR (jS i (ag j) (gC (.int 0))) (gC (.int 1))) (ag j))
  (λn ρ=>∃o,ρ=mk (bu [] ((ss.take n).map λx=>(x,1))) o)
  (λn u ρ hu h00=>by
   obtain⟨o,hr⟩:=h00;subst hr;have hn:n<ss.length:=by have:=(ZQ.mp hu).1;rwa [ZF] at this
   rw[ZT,ZH hn] at hu;obtain rfl:ah ss[n]=u:=by injection hu
   obtain⟨ρ1,a,b⟩:=step (bu [] ((ss.take n).map λx=>(x,1))) o ss[n] (abw (kT _) (by rw[ZF,abk];lia));refine⟨ρ1,_,a,.inl b,some (ah ss[n]),?_⟩;rw[aai hn,aad];show _=mk (bu [] (_++[(ss[n],1)])) _;rw[rn];rfl)
  (ρ:=mk [] o) ⟨o,rfl⟩
 refine⟨o',?_⟩;rw[e1,e2,ZF,aa7];rfl
theorem Cg {x:U}(hx:jB x=λρ=>.ok (ss.map ah,ρ))(hl:ss.length<100000):ke [x]=.ok (DU (ez ss)):=by
 obtain⟨o',e⟩:=Ji (s:=0) (x:=x) (i:=1) (j:=2) ss hl (λd o=>[some x,some (DU d),o]) (λd o k hd=>⟨[some x,some (DU d),some (ah k)],rfl,by
  simp only[Pzz,bO,Nat.reduceAdd,Nat.reduceSub,Cf,yk,ym,yn,yj hd]⟩) none
 have e0:DU []=.dct [] []:=rfl;rw[e0] at e;unfold ke p9;simp only[Pzz,bO,Nat.reduceAdd,Nat.reduceSub,hx,e]
theorem Jj {a b:Int}(h0:0<=a)(h1:0<b):(acE b.toNat (a % b).toNat)=acE a.toNat b.toNat:=by
 obtain⟨n,rfl⟩:∃n:Nat,a=n:=⟨a.toNat,by lia⟩;obtain⟨m,rfl⟩:∃m:Nat,b=m:=⟨b.toNat,by lia⟩;have e:((n:Int) % (m:Int)).toNat=n % m:=by rw[←Int.natCast_emod];rfl
 rw[e,aar,aar,Nat.gcd_comm m (n % m),←Nat.gcd_rec,Nat.gcd_comm]
theorem NO {i:Int}(h:0<=i):E1 [.int i]=.ok (.int i):=by
 have e:E1 [.int i]=.ok (.int (if i<0 then -i else i)):=nr rfl;rw[e,hV (by lia)]
theorem D8:∀(n:Nat) (a b:Int) (o:Option U),0<=a->0<=b->b<n->∃o',jQ (gB (aU (jC not) (ag 1) (gC (.int 0)))) (aK (bp 2 (aU vB (ag 0) (ag 1))) (aK (bp 0 (ag 1)) (bp 1 (ag 2)))) n [some (.int a),some (.int b),o]=.nx [some (.int (acE a.toNat b.toNat)),some (.int 0),o']
 |0,a,b,o,h0,h1,h2=>by lia
 |n+1,a,b,o,h0,h1,h2=>by
  by_cases c:b=0
  ·subst c;refine⟨o,?_⟩;have:((acE a.toNat (0:Int).toNat:Nat):Int)=a:=by rw[show (0:Int).toNat=0 from rfl,Nat.gcd_zero_right];lia
   rw[this];simp only[Pzz,bO,Nat.reduceAdd,Nat.reduceSub,eG,Int.reduceBEq,Dy]
  ·have hb:0<b:=by lia
   obtain⟨o',e⟩:=D8 n b (a % b) (some (.int (a % b))) h1 (acn _ c) (by have:=abP a hb;lia);refine⟨o',?_⟩;rw[Jj h0 hb] at e;have cb:(b==0)=false:=beq_eq_false_iff_ne.mpr c;simp only[Pzz,bO,Nat.reduceAdd,Nat.reduceSub,eG,cb,Dy,hG hb,e]
theorem S3 {a b:Int}(h0:0<=a)(h1:0<=b)(h2:b<1000000000000000):bC [.int a,.int b]=.ok (.int (acE a.toNat b.toNat)):=by
 obtain⟨o',e⟩:=D8 1000000000000000 a b none h0 h1 h2;unfold bC fM;simp only[Pzz,bO,Nat.reduceAdd,Nat.reduceSub,NO h0,NO h1,e]
def Zg (u:U)(ρ:Ev):R (List U×Ev):=match u with
 | .dct ks us=>if BQ ks=true then .ok (us,ρ) else .stk
 |_=>.stk
def WY (u:U)(ρ:Ev):R (List U×Ev):=match u with
 | .dct ks us=>if BQ ks=true then .ok (abe (λk u=>.tup [k,u]) ks us,ρ) else .stk
 |_=>.stk
theorem S4 {g:Ev->R (U×Ev)}:UE g ρ=(g ρ).bind λx=>WY x.1 x.2:=nr rfl
def Q0 (p:List Int×Int):U:=.tup [ah p.1,.int p.2]
theorem D9 (h:d≠[]):WY (DU d) ρ=.ok (d.map Q0,ρ):=by
 refine (hZ (Jh h)).trans ?_;have e:∀d:Dc,abe (λk u=>U.tup [k,u]) (d.map λp=>ah p.1) (d.map λp=>U.int p.2)=d.map Q0:=by
  intro d
  induction d with
  |nil=>rfl
  |cons p d ih=>rw[ZI,ZI,ZI,aaH,ih];rfl
 rw[e]
def Vx (i:Nat):SR->SR
 | .nx ρ'=>.nx (ρ'.set i none)
 | .bk ρ'=>.bk (ρ'.set i none)
 | .ct ρ'=>.ct (ρ'.set i none)
 | .rt u ρ'=>.rt u (ρ'.set i none)
 |r=>r
theorem D_ {g:Ev->SR}:vE i g ρ=Vx i (g ρ):=nr (by unfold vE Vx;cases g ρ<;>rfl)
theorem yo:Vx i (.rt u ρ)=.rt u (ρ.set i none):=nr rfl
theorem Ci {a b:U}:bz 2 (ay (ba i) (ay (ba j) bx)) (.tup [a,b]) ρ=.ok ((ρ.set i (some a)).set j (some b)):=nr rfl
def aQ (a b:List Int):List Int:=b.map λi=>a.getD i.toNat 0
theorem Ea {a b:List Int}(h:∀i∈b,0<=i/\i<a.length):AX (oE [none,some 0] (ba 0) cu (aU cC (ag 1) (ag 0)) [some (ah a),some (ah b)]) (b.map U.int)=.ok ((aQ a b).map U.int):=by
 have e:=bI (f:=oE [none,some 0] (ba 0) cu (aU cC (ag 1) (ag 0)) [some (ah a),some (ah b)]) (c:=U.int) (g:=λi:Int=>U.int (a.getD i.toNat 0)) (xs:=b) λi hi=>by
  obtain⟨h0,h1⟩:=h i hi;obtain⟨n,rfl⟩:∃n:Nat,i=n:=⟨i.toNat,by lia⟩;have hn:n<a.length:=by lia
  have e1:pJ (a.map U.int) (n:Int)=some (.int a[n]):=by rw[ft,ZT,ZH hn];rfl
  have e2:a.getD (n:Int).toNat 0=a[n]:=by rw[aar,ZV,ZH hn];rfl
  simp only[Pzz,bO,Nat.reduceAdd,Nat.reduceSub,ah,e1,e2]
 rw[e];unfold aQ;rw[ZY];rfl
theorem AB {a b:List Int}(h:∀i∈b,0<=i/\i<a.length)(hl:b.length<=1000):b9 [ah a,ah b]=.ok (ah (aQ a b)):=by
 have e:=Ea h;have sz:((aQ a b).map U.int).length<=ZL:=by rw[ZF];unfold aQ;rw[ZF];have:ZL=16777216:=rfl;lia
 unfold b9 nO;simp only[ah] at e ⊢;simp only[Pzz,bO,Nat.reduceAdd,Nat.reduceSub,e,sz]
theorem xA {a b:List Int}(h:∀i∈b,0<=i/\i<a.length)(hl:b.length<=1000):fT [ah a,ah b]=.ok (ah (aQ a b)):=by
 have e:=Ea h;have sz:((aQ a b).map U.int).length<=ZL:=by rw[ZF];unfold aQ;rw[ZF];have:ZL=16777216:=rfl;lia
 unfold fT lZ;simp only[ah] at e ⊢;simp only[Pzz,bO,Nat.reduceAdd,Nat.reduceSub,e,sz]
theorem qp:∀ns:List Int,j6 (ns.map U.int)=some ns
 | []=>rfl
 |n::ns=>by rw[ZI];show (j6 (ns.map U.int)).map _=_;rw[qp ns];rfl
theorem ph:∀{lA:List (List Int)},(∀ns∈lA,ns≠[])->q_ (lA.map ah)=some lA
 | [],_=>rfl
 |ns::lA,h=>by
  rw[ZI];unfold q_;have e1:Lm (ah ns)=some ns:=by
   show (match j6 (ns.map U.int) with|some (n::ns)=>some (n::ns)|_=>none)=_;rw[qp];cases ns with
   |nil=>exact absurd rfl (h [] ZG)
   |cons=>rfl
  rw[e1,ph λx hx=>h x (ZK _ hx)]
theorem LH (ss:List (List Int)):jB (SU ss)=λρ=>.ok (ss.map ah,ρ):=by funext ρ;exact BG
def c7 (t b:Int):Int×Int:=(t / (acE t.toNat b.toNat:Nat),b / (acE t.toNat b.toNat:Nat))
def fP (p:Int×Int):U:=.tup [.int p.1,.int p.2]
theorem Jk {q:Nat}(hq:0<q)(hm:0<m)(hc:acE p q=1)(h:p*m=n*q):n / acE n m=p/\m / acE n m=q:=by
 have d:q ∣ m:=by
  have:q ∣ p*m:=⟨n,by rw[h,aa6]⟩;exact (Nat.Coprime.dvd_of_dvd_mul_left (k:=q) (n:=m) (m:=p) (by rw[Nat.coprime_iff_gcd_eq_one,Nat.gcd_comm];exact hc) this)
 obtain⟨k,rfl⟩:=d;have hk:0<k:=Nat.pos_of_ne_zero λe=>by subst e;simp at hm
 have hn:n=p*k:=by
  have:n*q=(p*k)*q:=by rw[←h,aa6 q k,aba]
  exact Nat.eq_of_mul_eq_mul_right hq this
 subst hn;have g:acE (p*k) (q*k)=k:=by rw[Nat.gcd_mul_right,hc,Nat.one_mul]
 rw[g];exact⟨Nat.mul_div_cancel _ hk,Nat.mul_div_cancel _ hk⟩
theorem uZ {p q t b:Int}(hp:0<=p)(hq:0<q)(ht:0<=t)(hb:0<b)(hc:acE p.toNat q.toNat=1)(h:p*b=t*q):c7 t b=(p,q):=by
 obtain⟨p,rfl⟩:∃n:Nat,p=n:=⟨p.toNat,by lia⟩;obtain⟨q,rfl⟩:∃n:Nat,q=n:=⟨q.toNat,by lia⟩;obtain⟨t,rfl⟩:∃n:Nat,t=n:=⟨t.toNat,by lia⟩;obtain⟨b,rfl⟩:∃n:Nat,b=n:=⟨b.toNat,by lia⟩;have h':p*b=t*q:=by exact_mod_cast h
 obtain⟨e1,e2⟩:=Jk (by lia) (by lia) (by simpa using hc) h';unfold c7;simp only[aar];rw[←aee,←aee,e1,e2]
theorem qr {t b:Int}(ht:0<=t)(hb:0<b):0<=(c7 t b).1/\0<(c7 t b).2/\(c7 t b).1*b=t*(c7 t b).2/\acE (c7 t b).1.toNat (c7 t b).2.toNat=1/\(c7 t b).2 ∣ b:=by
 obtain⟨t,rfl⟩:∃n:Nat,t=n:=⟨t.toNat,by lia⟩;obtain⟨b,rfl⟩:∃n:Nat,b=n:=⟨b.toNat,by lia⟩;have yN:0<b:=by lia
 have hg:0<acE t b:=ae6 _ yN;have d1:=Nat.gcd_dvd_left t b;have d2:=Nat.gcd_dvd_right t b;unfold c7;simp only[aar];rw[←aee,←aee];refine⟨Int.natCast_nonneg _,?_,?_,?_,?_⟩
 ·have:=Nat.div_pos (Nat.le_of_dvd yN d2) hg;lia
 ·have:t / acE t b*b=t*(b / acE t b):=by
   generalize acE t b=g at d1 d2
   calc t / g*b=t / g*(b / g*g):=by rw[Nat.div_mul_cancel d2]
    _=(t / g*g)*(b / g):=by rw[aa6 (b / g) g,aba]
    _=t*(b / g):=by rw[Nat.div_mul_cancel d1]
  exact_mod_cast this
 ·simp only[aar];exact Nat.coprime_div_gcd_div_gcd hg
 ·exact Int.natCast_dvd_natCast.mpr (Nat.div_dvd_of_dvd d2)
theorem P9 {t b t' b':Int}(ht:0<=t)(hb:0<b)(Y9:0<=t')(yN:0<b')(h:t*b'=t'*b):c7 t b=c7 t' b':=by
 obtain⟨r1,r2,r3,r4,_⟩:=qr Y9 yN;refine uZ r1 r2 ht hb r4 ?_;have:((c7 t' b').1*b)*b'=(t*(c7 t' b').2)*b':=by
  calc ((c7 t' b').1*b)*b'=((c7 t' b').1*b')*b:=by rw[abb,ado b b',←abb]
   _=(t'*(c7 t' b').2)*b:=by rw[r3]
   _=(t'*b)*(c7 t' b').2:=by rw[abb,ado _ b,←abb]
   _=(t*b')*(c7 t' b').2:=by rw[h]
   _=(t*(c7 t' b').2)*b':=by rw[abb,ado b',←abb]
 exact aeC (by lia) this
theorem S5 {v:Int}{g:Nat}(h:0<g)(h2:g<1000000000000000):mX (.int v) (.int g)=.ok (.int (v / g)):=by
 have d:decide ((0:Int)<(g:Int))=true:=hG (by lia);have c:Bt v (g:Int)=true:=xB (by lia) (by lia);simp only[BH,d,c,if_true]
theorem FN {t b:Int}(hb:0<b)(h2:b<1000000000000000):0<acE t.toNat b.toNat/\acE t.toNat b.toNat<1000000000000000:=by
 have h1:0<b.toNat:=by lia
 refine⟨ae6 _ h1,?_⟩;have:=Nat.gcd_le_right t.toNat h1;lia
theorem AD {t b:Int}(h0:0<=t)(h1:0<b)(h2:b<1000000000000000):jH [.int t,.int b]=.ok (fP (c7 t b)):=by
 have e:=S3 h0 (by lia) h2;obtain⟨g1,g2⟩:=FN (t:=t) h1 h2;have d:decide (b<0)=false:=hJ (by lia);unfold jH xS;simp only[Pzz,bO,Nat.reduceAdd,Nat.reduceSub,e,d,S5 g1 g2];rfl
def wt (D:Int)(g:Int×Int):Int:=g.1*(D / g.2)
theorem NP {D:Int}(h:g.2 ∣ D):g.1*D=wt D g*g.2:=by
 unfold wt;rw[abb,Int.ediv_mul_cancel h]
def Cj (D:Int)(g:Int×Int):Prop:=0<=g.1/\0<g.2/\g.2 ∣ D
theorem NQ {D:Int}(hD:0<D)(h:Cj D g):0<=wt D g:=ac9 h.1 (Int.ediv_nonneg (by lia) (by have:=h.2.1;lia))
theorem LJ {f1 f2 g1 g2 S w D:Int}(h1:f1*D=S*f2)(h2:g1*D=w*g2):(f1*g2+g1*f2)*D=(S+w)*(f2*g2):=by
 rw[Int.add_mul,Int.add_mul];have a:f1*g2*D=S*(f2*g2):=by rw[abb,ado g2 D,←abb,h1,abb]
 have b:g1*f2*D=w*(f2*g2):=by rw[abb,ado f2 D,←abb,h2,abb,ado g2 f2]
 rw[a,b]
theorem Jl {D:Int}(hD:0<D):∀{l:List (Int×Int)},(∀g∈l,Cj D g)->0<=(l.map (wt D)).sum
 | [],_=>by simp
 |g::l,h=>by
  rw[ZI,aaf];have a:=NQ hD (h g ZG);have b:=Jl hD (l:=l) λx hx=>h x (ZK _ hx);lia
theorem Jm {D S:Int}(hD:0<D)(hS:0<=S)(h:Cj D g):c7 ((c7 S D).1*g.2+g.1*(c7 S D).2) ((c7 S D).2*g.2)=c7 (S+wt D g) D:=by
 obtain⟨r1,r2,r3,_,_⟩:=qr hS hD;obtain⟨g0,g1,g2⟩:=h;have w0:=NQ hD ⟨g0,g1,g2⟩;refine P9 ?_ (aex r2 g1) (by lia) hD (LJ r3 (NP g2));exact Int.add_nonneg (ac9 r1 (by lia)) (ac9 g0 (by lia))
theorem Jn {D:Int}(hD:0<D):c7 0 D=(0,1):=uZ (by decide) (by decide) (by decide) hD (by decide) (by simp)
theorem u4 {vf:List Int->U}(k:List Int):∀ks:List (List Int),cX (ks.map ah) (ks.map vf) (ah k)=if k∈ks then some (vf k) else none
 | []=>rfl
 |x::ks=>by
  rw[ZI,ZI];unfold cX;by_cases c:x=k
  ·subst c;rw[hZ rfl,hZ ZG]
  ·rw[hV (λz=>c (eP.mp z)),u4 k ks];by_cases d:k∈ks
   ·rw[hZ d,hZ (ZK _ d)]
   ·rw[hV d,hV (λz=>(ZX.mp z).elim (λe=>c e.symm) d)]
theorem pj {k:List Int}{ks:List (List Int)}:ah k∈ks.map ah↔k∈ks:=by
 constructor
 ·intro h;obtain⟨x,hx,e⟩:=ZO.mp h;rw[←eP.mp e];exact hx
 ·exact λh=>aaB h
theorem Eb (ks:List (List Int))(k:List Int):dv (ks.map ah) (ah k)=(fA ks k).map ah:=by
 unfold dv fA;by_cases c:k∈ks
 ·rw[hZ (pj.mpr c),hZ c]
 ·rw[hV (λz=>c (pj.mp z)),hV c,aad];rfl
theorem NR {vf:List Int->U}{w:U}(k:List Int):∀ks:List (List Int),abe (λk' u=>if k'=ah k then w else u) (ks.map ah) (ks.map vf)=ks.map λk'=>if k'=k then w else vf k'
 | []=>rfl
 |x::ks=>by
  rw[ZI,ZI,aaH,NR k ks,ZI];congr 1;by_cases c:x=k
  ·rw[hZ (eP.mpr c),hZ c]
  ·rw[hV (λz=>c (eP.mp z)),hV c]
theorem Ec {vf:List Int->U}{w:U}(ks:List (List Int))(k:List Int):cx (ks.map ah) (ks.map vf) (ah k) w=(fA ks k).map λk'=>if k'=k then w else vf k':=by
 unfold cx fA;by_cases c:k∈ks
 ·rw[hZ (pj.mpr c),hZ c,NR]
 ·rw[hV (λz=>c (pj.mp z)),hV c,aad];congr 1
  ·refine Z2 λx hx=>?_;rw[hV (λ(e:x=k)=>c (e▸hx))]
  ·show [w]=[if k=k then w else _];rw[hZ rfl]
theorem bQ:∀(l bE:List (List Int)) (x:List Int),x∈l.foldl fA bE↔x∈bE\/x∈l
 | [],bE,x=>by simp
 |y::l,bE,x=>by
  rw[adE,bQ l (fA bE y) x,ZX];unfold fA;split
  ·rename_i c;constructor
   ·rintro (h|h)
    ·exact .inl h
    ·exact .inr (.inr h)
   ·rintro (h|h|h)
    ·exact .inl h
    ·rw[h];exact .inl c
    ·exact .inr h
  ·rw[aam,Z1];constructor
   ·rintro ((h|h)|h)
    ·exact .inl h
    ·exact .inr (.inl h)
    ·exact .inr (.inr h)
   ·rintro (h|h|h)
    ·exact .inl (.inl h)
    ·exact .inl (.inr h)
    ·exact .inr h
theorem kW:∀(l bE:List (List Int)),bE.Nodup->(l.foldl fA bE).Nodup
 | [],bE,h=>h
 |y::l,bE,h=>by
  rw[adE];refine kW l _ ?_;unfold fA;split
  ·exact h
  ·rename_i c;refine aa_.mpr ⟨h,aaS _ _,λa ha b hb e=>?_⟩;rw[Z1] at hb;exact c (hb▸e▸ha)
theorem kq:∀(l bE:List (List Int)),(l.foldl fA bE).length<=bE.length+l.length
 | [],bE=>by simp
 |y::l,bE=>by
  rw[adE,Z0];have:=kq l (fA bE y);have h2:(fA bE y).length<=bE.length+1:=by unfold fA;split<;>simp
  lia
theorem P_ {ks:List (List Int)}(h:ks≠[])(ln:ks.length<64)(hr:∀k∈ks,k≠[]):uB [.dct (ks.map ah) us]=.ok (.lst ((eF ks).map ah)):=by
 have w:BQ (ks.map ah)=true:=by
  unfold BQ;have:(ks.map ah).all Pt=true:=aag.mpr λu hu=>by
   obtain⟨k,_,rfl⟩:=ZO.mp hu;rfl
  rw[this];cases ks with
  |nil=>exact absurd rfl h
  |cons=>rfl
 unfold uB;show uA [.dct (ks.map ah) us]=_;unfold uA;dsimp only;rw[hZ w];unfold lU;rw[ph hr];exact hZ (by lia)
abbrev Fs:=List (List Int×(Nat->Int))
def gI (F:Fs):List (List Int):=aP (F.map (·.1))
def rZ (F:Fs)(k:List Int)(d:Nat):Int:=(F.map λx=>if x.1=k then x.2 d else 0).sum
def wU (nd:Nat)(D:Int)(w:Nat->Int):U:=.tup ((ZU nd).map λd=>fP (c7 (w d) D))
def pU (nd:Nat)(D:Int)(p:List Int×(Nat->Int)):U:=.tup [ah p.1,wU nd D p.2]
def cG (nd:Nat)(D:Int)(m:Fs):U:=.tup (m.map (pU nd D))
def iX (F:Fs):Fs:=(eF (gI F)).map λk=>(k,rZ F k)
theorem fh {F:Fs}{k:List Int}:k∈gI F↔k∈F.map (·.1):=by
 unfold gI aP;rw[bQ];simp
theorem Jo {α:Type}{f:α->Int}:∀{l:List α},(∀x∈l,f x=0)->(l.map f).sum=0
 | [],_=>rfl
 |x::l,h=>by
  rw[ZI,aaf,h x ZG,Jo λy hy=>h y (ZK _ hy)];rfl
theorem yp {α:Type}{f:α->Int}:∀{l:List α},(∀x∈l,0<=f x)->0<=(l.map f).sum
 | [],_=>by simp
 |x::l,h=>by
  rw[ZI,aaf];have a:=h x ZG;have b:=yp (f:=f) (l:=l) λy hy=>h y (ZK _ hy);lia
theorem Ed {F:Fs}(h:∀x∈F,∀d,0<=x.2 d)(k:List Int)(d:Nat):0<=rZ F k d:=yp λx hx=>by
 split
 ·exact h x hx d
 ·exact ad0 _
theorem jO (F:Fs):(gI F).Nodup:=kW _ _ abi
theorem mL (F:Fs):(gI F).length<=F.length:=by
 have:=kq (F.map (·.1)) [];unfold gI aP;simpa using this
theorem Ck {a D:Int}(ha:0<=a)(hD:0<D):wt D (c7 a D)=a:=by
 obtain⟨r1,r2,r3,_,r5⟩:=qr ha hD;have:=NP r5;rw[r3] at this;exact (aeC (by lia) this).symm
theorem Qa {a D:Int}(ha:0<=a)(hD:0<D):Cj D (c7 a D):=by
 obtain⟨r1,r2,r3,_,r5⟩:=qr ha hD;exact⟨r1,r2,r5⟩
structure Sf (n:Nat)(ss:List (List Int)):Prop where
 n1:1<=n
 n8:n<=8
 o:∀o∈ss,br n o
 l1:1<=ss.length
 l2:ss.length<=24
structure pq (n nd:Nat)(D:Int)(m:Fs):Prop where
 ne:m≠[]
 nn:(m.map (·.1)).Nodup
 el:∀p∈m,p.1.length=n/\∀d,0<=p.2 d
 ln:m.length<=60
 d0:0<D
 d1:D<=400000
 n1:1<=nd
 n2:nd<=4
theorem mM (h:br n o):∀i∈o,0<=i/\i<n:=λi hi=>t8.mp (h.mem_iff.mp hi)
theorem fI (h:br n o):o.length=n:=by have:=h.length_eq;rwa [kJ] at this
def dw (m:Fs)(ss:List (List Int)):Fs:=m.flatMap λp=>ss.map λo=>(aQ p.1 o,p.2)
theorem u5 (m:Fs)(ss:List (List Int)):(dw m ss).length=m.length*ss.length:=by
 unfold dw
 induction m with
 |nil=>simp
 |cons p m ih=>rw[abG,Z3,ih,ZF,Z0,Nat.add_mul,Nat.one_mul,aeK]
theorem sP {D:Int}{m:Fs}(hm:pq n nd D m)(hs:Sf n ss):∀x∈dw m ss,x.1.length=n/\∀d,0<=x.2 d:=λx hx=>by
 unfold dw at hx;obtain⟨p,hp,hx⟩:=aa8.mp hx;obtain⟨o,ho,rfl⟩:=ZO.mp hx;refine⟨?_,(hm.el p hp).2⟩;show (aQ p.1 o).length=n;unfold aQ;rw[ZF];exact fI (hs.o o ho)
theorem Ee {D:Int}{m:Fs}(hm:pq n nd D m)(hs:Sf n ss):dw m ss≠[]:=λe=>by
 have:=u5 m ss;rw[e,abM] at this;have h1:0<m.length:=List.length_pos_iff.mpr hm.ne;have:=Nat.mul_pos h1 hs.l1;lia
theorem S6 {a:Int}(h:0<=a):c7 a 1=(a,1):=uZ h (by decide) h (by decide) (Nat.gcd_one_right _) rfl
theorem S7 {l:List Int}:c6 [.lst (l.map λa=>fP (a,1))]=.ok (.int 1):=by
 obtain⟨ρ,e,o2,rfl⟩:=cZ (us:=l.map λa=>fP (a,1)) (sg:=ba 2) (s:=j_) (λi ρ=>∃o2,ρ=[some (.lst (l.map λa=>fP (a,1))),some (.int 1),o2])
  (λi u ρ hu h00=>by
   obtain⟨o2,hr⟩:=h00;subst hr;have hi:i<l.length:=by have:=(ZQ.mp hu).1;rwa [ZF] at this
   rw[ZT,ZH hi] at hu;obtain rfl:fP (l[i],1)=u:=by injection hu
   exact⟨[some (.lst (l.map λa=>fP (a,1))),some (.int 1),some (fP (l[i],1))],_,rfl,.inl (by kernel_rfl),some (fP (l[i],1)),rfl⟩)
  (ρ:=[some (.lst (l.map λa=>fP (a,1))),some (.int 1),none]) ⟨_,rfl⟩
 unfold c6 iF;simp only[Pzz,bO,Nat.reduceAdd,Nat.reduceSub,e]
theorem LK {k:List Int}(v:Int)(h:k∉d.map (·.1)):km d k v=d++[(k,v)]:=hV h
def lq (d:Nat)(m:Fs):Dc:=m.map λp=>(p.1,p.2 d)
theorem S8 {d:Nat}(h:d<nd){D:Int}{w:Nat->Int}:cC (wU nd D w) (.int (d:Nat))=.ok (fP (c7 (w d) D)):=by
 unfold wU;rw[jd,ft,ZT,aaT h];rfl
theorem S9 {d:Nat}(h:d<nd){w:Nat->Int}(hw:0<=w d):cC (wU nd 1 w) (.int (d:Nat))=.ok (fP (w d,1)):=by rw[S8 h,S6 hw]
theorem S_ {m:Fs}(hm:pq n nd 1 m){d:Nat}(hd:d<nd):dR [cG nd 1 m,.int (d:Nat)]=.ok (.tup [DU (lq d m),.int 1]):=by
 have ln:=hm.ln;obtain⟨ρ,e,o4',o5',o6',rfl⟩:=cZ (us:=m.map (pU nd 1)) (sg:=bz 2 (ay (ba 4) (ay (ba 5) bx))) (s:=dD)
  (λi ρ=>∃o4 o5 o6,ρ=[some (cG nd 1 m),some (.int (d:Nat)),some (.int 1),some (DU (lq d (m.take i))),o4,o5,o6])
  (λi u ρ hu h00=>by
   obtain⟨o4,o5,o6,hr⟩:=h00;subst hr;have hi:i<m.length:=by have:=(ZQ.mp hu).1;rwa [ZF] at this
   rw[ZT,ZH hi] at hu;obtain rfl:pU nd 1 m[i]=u:=by injection hu
   have ql:(lq d (m.take i)).length<1000000:=by unfold lq;rw[ZF,abk];lia
   have nk:m[i].1∉(lq d (m.take i)).map (·.1):=λz=>by
    unfold lq at z;rw[ZY] at z;obtain⟨p,hp,e⟩:=ZO.mp z;have nd:=hm.nn;rw[←ad7 i m,aad,aa_] at nd;refine nd.2.2 p.1 (aaB hp) m[i].1 (aaB ?_) e;rw[aaL hi];exact ZG
   have sn:lq d (m.take (i+1))=km (lq d (m.take i)) m[i].1 (m[i].2 d):=by
    rw[LK _ nk];unfold lq;rw[aai hi,aad];rfl
   rw[sn];have iw:=S9 hd ((hm.el _ (aau hi)).2 d);have fd:mX (.int 1) (.int 1)=.ok (.int 1):=by kernel_rfl
   have c:k_ (m[i].2 d) 1=true:=nH (by decide) (by decide);refine⟨_,[some (cG nd 1 m),some (.int (d:Nat)),some (.int 1),some (DU (km (lq d (m.take i)) m[i].1 (m[i].2 d))),some (ah m[i].1),some (wU nd 1 m[i].2),some (fP (m[i].2 d,1))],Ci,.inl ?_,_,_,_,rfl⟩;show dD [some (cG nd 1 m),some (.int (d:Nat)),some (.int 1),some (DU (lq d (m.take i))),some (ah m[i].1),some (wU nd 1 m[i].2),o6]=_;unfold dD;unfold fP at iw ⊢;simp only[Pzz,bO,Nat.reduceAdd,Nat.reduceSub,iw,Cf,yj ql,fd,c,Int.mul_one])
  (ρ:=[some (cG nd 1 m),some (.int (d:Nat)),some (.int 1),some (DU []),none,none,none]) ⟨_,_,_,rfl⟩
 rw[ZF,aa7] at e;have cb:=S7 (l:=m.map λp=>p.2 d);rw[ZY] at cb;have cb:c6 [.lst (m.map λp=>fP (p.2 d,1))]=.ok (.int 1):=cb;have el:=bI (f:=oE [none,none,some 1] (bz 2 (ay (ba 0) (ay (ba 1) bx))) cu (aU cC (ag 1) (ag 2)) [some (cG nd 1 m),some (.int (d:Nat)),none,none,none,none,none]) (c:=pU nd 1) (g:=λp=>fP (p.2 d,1)) (xs:=m) λp hp=>by
  have iw:=S9 hd ((hm.el p hp).2 d);unfold pU;simp only[Pzz,bO,Nat.reduceAdd,Nat.reduceSub,Ci,iw]
 have sz:(m.map λp=>fP (p.2 d,1)).length<=ZL:=by
  have:ZL=16777216:=rfl;rw[ZF];lia
 have sb:∀ρ,jB (cG nd 1 m) ρ=.ok (m.map (pU nd 1),ρ):=λρ=>rfl;have e:bY (bz 2 (ay (ba 4) (ay (ba 5) bx))) dD (m.map (pU nd 1)) [some (cG nd 1 m),some (.int (d:Nat)),some (.int 1),some (.dct [] []),none,none,none]=_:=e;unfold dR iG;simp only[Pzz,bO,Nat.reduceAdd,Nat.reduceSub,sb,el,sz,cb,e,D_,yo]
def ir (W C:Dc):List (List Int×Int):=C.flatMap λo=>W.map λr=>(aQ r.1 o.1,r.2*o.2)
theorem xb (W C:Dc):(ir W C).length=C.length*W.length:=by
 unfold ir
 induction C with
 |nil=>simp
 |cons o C ih=>rw[abG,Z3,ih,ZF,Z0,Nat.add_mul,Nat.one_mul,aeK]
theorem Ta {W:Dc}(hW:W≠[])(wl:W.length<=1000)(hr:∀r∈W,r.1.length=n){o:List Int×Int}(ho:br n o.1)(n8:n<=8)(Y_:0<=o.2)(Zy:o.2<1000){ws:List (List Int×Int)}(wb:ws.length<10000){o7:Option U} :
  ∃o5' o6' o7',mH [some (DU W),x1,some (DU (bu [] ws)),some (ah o.1),some (.int o.2),o5,o6,o7]=.nx [some (DU W),x1,some (DU (bu [] (ws++W.map λr=>(aQ r.1 o.1,r.2*o.2)))),some (ah o.1),some (.int o.2),o5',o6',o7']:=by
 obtain⟨ρ,e,o5',o6',o7',rfl⟩:=cZ (us:=W.map Q0) (sg:=bz 2 (ay (ba 5) (ay (ba 6) bx))) (s:=p_)
  (λi ρ=>∃o5 o6 o7,ρ=[some (DU W),x1,some (DU (bu [] (ws++(W.take i).map λr=>(aQ r.1 o.1,r.2*o.2)))),some (ah o.1),some (.int o.2),o5,o6,o7])
  (λi u ρ hu h00=>by
   obtain⟨o5,o6,o7,hr'⟩:=h00;subst hr';have hi:i<W.length:=by have:=(ZQ.mp hu).1;rwa [ZF] at this
   rw[ZT,ZH hi] at hu;obtain rfl:Q0 W[i]=u:=by injection hu
   have el:=hr _ (aau hi);have lo:=AB (a:=W[i].1) (b:=o.1) (λj hj=>by rw[el];exact mM ho j hj) (by rw[fI ho];lia);have ql:(bu [] (ws++(W.take i).map λr=>(aQ r.1 o.1,r.2*o.2))).length<1000000:=by
    have:=kT (ws++(W.take i).map λr=>(aQ r.1 o.1,r.2*o.2));rw[Z3,ZF,abk] at this;lia
   have c:k_ W[i].2 o.2=true:=nH Y_ (by lia);have sn:bu [] (ws++(W.take (i+1)).map λr=>(aQ r.1 o.1,r.2*o.2))=kS (bu [] (ws++(W.take i).map λr=>(aQ r.1 o.1,r.2*o.2))) (aQ W[i].1 o.1) (W[i].2*o.2):=by
    rw[aai hi,aad,←abD,ZI,aaI,rn]
   rw[sn];refine⟨[some (DU W),x1,some (DU (bu [] (ws++(W.take i).map λr=>(aQ r.1 o.1,r.2*o.2)))),some (ah o.1),some (.int o.2),some (ah W[i].1),some (.int W[i].2),o7],_,Ci,.inl ?_,some (ah W[i].1),some (.int W[i].2),some (ah (aQ W[i].1 o.1)),rfl⟩;unfold p_;simp only[Pzz,bO,Nat.reduceAdd,Nat.reduceSub,lo,Cf,yk,ym,yn,c,yj ql];rfl)
  (ρ:=[some (DU W),x1,some (DU (bu [] ws)),some (ah o.1),some (.int o.2),o5,o6,o7]) ⟨o5,o6,o7,by simp⟩
 rw[ZF,aa7] at e;refine⟨o5',o6',o7',?_⟩;unfold mH;simp only[Pzz,bO,Nat.reduceAdd,Nat.reduceSub,S4,D9 hW,e]
theorem yq {l:List (List Int)}{p:List Int×Int}(h:p∈ez l):p.1∈l:=by
 have key:∀(ws:List (List Int×Int)) (d:Dc) (p:List Int×Int),p∈bu d ws->p.1∈d.map (·.1)\/p.1∈ws.map (·.1):=by
  intro ws
  induction ws with
  |nil=>exact λd p hp=>.inl (aaB hp)
  |cons w ws ih=>
   intro d p hp;rcases ih (kS d w.1 w.2) p hp with z|z
   ·unfold kS at z;rw[pb] at z;split at z
    ·exact .inl z
    ·rcases aam.mp z with z|z
     ·exact .inl z
     ·rw[Z1] at z;exact .inr (by rw[z];exact ZG)
   ·exact .inr (ZK _ z)
 rcases key _ _ p h with z|z
 ·cases z
 ·rw[ZY] at z;obtain⟨x,hx,e⟩:=ZO.mp z;rw[←e];exact hx
theorem Ef (l:List (List Int)):(ez l).length<=l.length:=by
 have:=kT (l.map λx=>(x,1));rw[ZF] at this;exact this
theorem Jp (l:List (List Int)):∀p∈ez l,p.2<=l.length:=λp hp=>by
 have:=P5 (uX l).2.1 p hp
 rwa [D5] at this
theorem Qb {l:List (List Int)}(h:1<=l.length):ez l≠[]:=λe=>by
 have:=D5 l;rw[e] at this;unfold LG at this;simp at this;lia
theorem FO {W:Dc}(hW:W≠[])(wl:W.length<=1000)(hr:∀r∈W,r.1.length=n)(hs:Sf n ss)(Zz:ss.length*W.length<=2000):lX [DU W,SU ss]=.ok (DU (bu [] (ir W (ez ss)))):=by
 have Oa:=hs.l2;have cl:=Ef ss;obtain⟨cn,cp,_⟩:=uX ss;have co:=Cg (x:=SU ss) (ss:=ss) (LH ss) (by lia);obtain⟨ρ,e,o3,o4,o5,o6,o7,rfl⟩:=cZ (us:=(ez ss).map Q0) (sg:=bz 2 (ay (ba 3) (ay (ba 4) bx))) (s:=mH)
  (λi ρ=>∃o3 o4 o5 o6 o7,ρ=[some (DU W),some (SU ss),some (DU (bu [] (ir W ((ez ss).take i)))),o3,o4,o5,o6,o7])
  (λi u ρ hu h00=>by
   obtain⟨o3,o4,o5,o6,o7,hr'⟩:=h00;subst hr';have hi:i<(ez ss).length:=by have:=(ZQ.mp hu).1;rwa [ZF] at this
   rw[ZT,ZH hi] at hu;obtain rfl:Q0 (ez ss)[i]=u:=by injection hu
   have hm:=aau hi;have p1:=cp _ hm;have p2:=Jp ss _ hm;have pl:(ir W ((ez ss).take i)).length<10000:=by
    rw[xb,abk];have:min i (ez ss).length*W.length<=ss.length*W.length:=Nat.mul_le_mul (by lia) (ZS _);lia
   obtain⟨o5',o6',o7',q⟩:=Ta hW wl hr (o:=(ez ss)[i]) (hs.o _ (yq hm)) hs.n8 (by lia) (by lia) pl (x1:=some (SU ss)) (o5:=o5) (o6:=o6) (o7:=o7);have ef:ir W ((ez ss).take (i+1))=ir W ((ez ss).take i)++W.map λr=>(aQ r.1 (ez ss)[i].1,r.2*(ez ss)[i].2):=by
    unfold ir;rw[aai hi,List.flatMap_append,abG,List.flatMap_nil,aaW]
   rw[ef];exact⟨_,_,Ci,.inl q,_,_,_,_,_,rfl⟩)
  (ρ:=[some (DU W),some (SU ss),some (DU []),none,none,none,none,none]) ⟨_,_,_,_,_,rfl⟩
 rw[ZF,aa7] at e;have e0:DU []=.dct [] []:=rfl;rw[e0] at e;unfold lX uJ;simp only[Pzz,bO,Nat.reduceAdd,Nat.reduceSub,co,S4,D9 (Qb hs.l1),e]
theorem u6:∀(ws:List (List Int×Int)) (d:Dc),(bu d ws).map (·.1)=(ws.map (·.1)).foldl fA (d.map (·.1))
 | [],d=>rfl
 |w::ws,d=>by
  show (bu (kS d w.1 w.2) ws).map (·.1)=_;rw[u6 ws,ZI,adE];congr 1;unfold kS;rw[pb];rfl
def Pn (d:Dc):Prop:=∀p∈d,0<=p.2
theorem Eg (h:Pn d)(k:Rw):0<=jZ d k:=by
 by_cases c:k∈d.map (·.1)
 ·exact h _ (w9 c)
 ·rw[kn c];exact ad0 _
theorem Qc {k:Rw}{v:Int}(h:Pn d)(hv:0<=v):Pn (km d k v):=by
 unfold km;intro p hp;split at hp
 ·obtain⟨q,hq,rfl⟩:=ZO.mp hp;split
  ·exact hv
  ·exact h q hq
 ·rcases aam.mp hp with hp|hp
  ·exact h p hp
  ·rw[Z1] at hp;subst hp;exact hv
theorem xc:∀(ws:List (Rw×Int)) {d:Dc},Nd d->Pn d->(∀p∈ws,0<=p.2)->Nd (bu d ws)/\Pn (bu d ws)/\∀f,j0 (bu d ws) f=j0 d f+(ws.map λp=>p.2*f p.1).sum
 | [],d,n,p,_=>⟨n,p,λf=>by show j0 d f=_;simp⟩
 |q::ws,d,n,p,h=>by
  have n1:Nd (kS d q.1 q.2):=Ja _ _ n;have p1:Pn (kS d q.1 q.2):=Qc p (by have:=Eg p q.1;have:=h q ZG;lia);obtain⟨a,b,c⟩:=xc ws n1 p1 λx hx=>h x (ZK _ hx);refine⟨a,b,λf=>?_⟩;show j0 (bu (kS d q.1 q.2) ws) f=_;rw[c f,Ax _ _ _ n,ZI,aaf];lia
theorem Eh:iS (.lst us) [u]=if us.length<ZL then .ok (.non,.lst (us++[u])) else .stk:=nr rfl
abbrev Dl:=List (Dc×Int)
def r9 (x:Dc×Int):U:=.tup [DU x.1,.int x.2]
def iL (L:Dl):List (List Int):=L.flatMap λx=>x.1.map (·.1)
def pz (L:Dl)(k:List Int):U:=.tup [ah k,.tup (L.map λx=>fP (c7 (jZ x.1 k) x.2))]
structure Tc (L:Dl):Prop where
 el:∀x∈L,x.1≠[]/\x.1.length<=2000/\Pn x.1/\0<x.2/\x.2<=10000000/\∀p∈x.1,p.1≠[]
 ln:L.length<=4
 kl:(aP (iL L)).length<64
theorem LL {W:Dc}(h:W≠[]):uE [DU W]=.ok (.lst (W.map λp=>ah p.1)):=by
 unfold uE DU;dsimp only;exact hZ (Jh h)
theorem Jq {L:Dl}(h:∀x∈L,x.1.length<=2000):(iL L).length<=2000*L.length:=by
 unfold iL
 induction L with
 |nil=>simp
 |cons x L ih=>
  have a:=h x ZG;have b:=ih λy hy=>h y (ZK _ hy);rw[abG,Z3,ZF,Z0];lia
theorem Qd {L:Dl}(hL:Tc L){o2 o3 o4:Option U} :
  ∃o2' o3',bY (bz 2 (ay (ba 2) (ay (ba 3) bx))) jI (L.map r9) [x0,some (.lst []),o2,o3,o4,o5]=.nx [x0,some (.lst ((iL L).map ah)),o2',o3',o4,o5]:=by
 have sz:ZL=16777216:=rfl;have ln:=hL.ln;obtain⟨ρ,e,o2',o3',rfl⟩:=cZ (us:=L.map r9) (sg:=bz 2 (ay (ba 2) (ay (ba 3) bx))) (s:=jI)
  (λi ρ=>∃o2 o3,ρ=[x0,some (.lst ((iL (L.take i)).map ah)),o2,o3,o4,o5])
  (λi u ρ hu h00=>by
   obtain⟨o2,o3,hr⟩:=h00;subst hr;have hi:i<L.length:=by have:=(ZQ.mp hu).1;rwa [ZF] at this
   rw[ZT,ZH hi] at hu;obtain rfl:r9 L[i]=u:=by injection hu
   obtain⟨w1,w2,_⟩:=hL.el _ (aau hi);have al:=Jq (L:=L.take i) λx hx=>(hL.el x (List.mem_of_mem_take hx)).2.1;rw[abk] at al;have q:((iL (L.take i)).map ah).length+(L[i].1.map λp=>ah p.1).length<=ZL:=by rw[ZF,ZF];lia
   have ef:iL (L.take (i+1))=iL (L.take i)++L[i].1.map (·.1):=by
    unfold iL;rw[aai hi,List.flatMap_append,abG,List.flatMap_nil,aaW]
   rw[ef];refine⟨[x0,some (.lst ((iL (L.take i)).map ah)),some (DU L[i].1),some (.int L[i].2),o4,o5],[x0,some (.lst ((iL (L.take i)++L[i].1.map (·.1)).map ah)),some (DU L[i].1),some (.int L[i].2),o4,o5],Ci,.inl ?_,_,_,rfl⟩;unfold jI;simp only[Pzz,bO,Nat.reduceAdd,Nat.reduceSub,LL w1,S0,q];simp only[aad,ZY];rfl)
  (ρ:=[x0,some (.lst []),o2,o3,o4,o5]) ⟨_,_,rfl⟩
 rw[ZF,aa7] at e;exact⟨o2',o3',e⟩
theorem Qe {L:Dl}(hL:Tc L)(ks:List (List Int))(kl:ks.length<64){o1 o2 o3:Option U} :
  ∃o5',bY (ba 5) jJ (ks.map ah) [some (.lst (L.map r9)),o1,o2,o3,some (.lst []),o5]=.nx [some (.lst (L.map r9)),o1,o2,o3,some (.lst (ks.map (pz L))),o5']:=by
 have sz:ZL=16777216:=rfl;have ln:=hL.ln;obtain⟨ρ,e,o5',rfl⟩:=cZ (us:=ks.map ah) (sg:=ba 5) (s:=jJ)
  (λi ρ=>∃o5,ρ=[some (.lst (L.map r9)),o1,o2,o3,some (.lst ((ks.take i).map (pz L))),o5])
  (λi u ρ hu h00=>by
   obtain⟨o5,hr⟩:=h00;subst hr;have hi:i<ks.length:=by have:=(ZQ.mp hu).1;rwa [ZF] at this
   rw[ZT,ZH hi] at hu;obtain rfl:ah ks[i]=u:=by injection hu
   have el:=bI (f:=oE [none,none,some 5] (bz 2 (ay (ba 0) (ay (ba 1) bx))) cu (fy 2 jH (af (jS 0 (ag 2) (gC (.int 0))) (af (ag 1) au))) [some (.lst (L.map r9)),o1,o2,o3,some (.lst ((ks.take i).map (pz L))),some (ah ks[i])]) (c:=r9) (g:=λx=>fP (c7 (jZ x.1 ks[i]) x.2)) (xs:=L) λx hx=>by
    obtain⟨_,_,w3,w4,w5,_⟩:=hL.el x hx;have ra:=AD (t:=jZ x.1 ks[i]) (Eg w3 _) w4 (by lia);unfold r9;simp only[Pzz,bO,Nat.reduceAdd,Nat.reduceSub,Ci,yk,ym,yn,ra]
   have z1:(L.map λx=>fP (c7 (jZ x.1 ks[i]) x.2)).length<=ZL:=by rw[ZF];lia
   have z2:((ks.take i).map (pz L)).length<ZL:=by rw[ZF,abk];lia
   have sb:∀ρ,jB (.lst (L.map r9)) ρ=.ok (L.map r9,ρ):=λρ=>rfl;rw[aai hi];refine⟨[some (.lst (L.map r9)),o1,o2,o3,some (.lst ((ks.take i).map (pz L))),some (ah ks[i])],[some (.lst (L.map r9)),o1,o2,o3,some (.lst ((ks.take i++[ks[i]]).map (pz L))),some (ah ks[i])],rfl,.inl ?_,_,rfl⟩;unfold jJ;simp only[Pzz,bO,Nat.reduceAdd,Nat.reduceSub,el,z1,Eh,z2];simp only[aad];rfl)
  (ρ:=[some (.lst (L.map r9)),o1,o2,o3,some (.lst []),o5]) ⟨_,rfl⟩
 rw[ZF,aa7] at e;exact⟨o5',e⟩
theorem Ei {L:Dl}(hL:Tc L):fN [.lst (L.map r9)]=.ok (.tup ((eF (aP (iL L))).map (pz L))):=by
 have ss:j9 [.lst ((iL L).map ah)]=.ok (.lst ((eF (aP (iL L))).map ah)):=by
  unfold j9;dsimp only;rw[ph λk hk=>by
   unfold iL at hk;obtain⟨x,hx,hk⟩:=aa8.mp hk;obtain⟨p,hp,rfl⟩:=ZO.mp hk;exact (hL.el x hx).2.2.2.2.2 p hp]
  dsimp only;rw[hZ hL.kl]
 have kl:(eF (aP (iL L))).length<64:=by rw[(aM _).length_eq];exact hL.kl
 obtain⟨o2,o3,e1⟩:=Qd hL (x0:=some (.lst (L.map r9))) (o2:=none) (o3:=none) (o4:=none) (o5:=none);obtain⟨o5,e2⟩:=Qe hL (eF (aP (iL L))) kl (o1:=some (.lst ((iL L).map ah))) (o2:=o2) (o3:=o3) (o5:=none);have sz:((eF (aP (iL L))).map (pz L)).length<=ZL:=by
  have:ZL=16777216:=rfl;rw[ZF];lia
 unfold fN nP;simp only[Pzz,bO,Nat.reduceAdd,Nat.reduceSub,e1,D_,ss,e2,sz,yo]
theorem NT {D:Int}{m:Fs}(hm:pq n nd D m):cJ [cG nd D m]=.ok (.lst (aY 0 nd)):=by
 have n2:=hm.n2;obtain⟨p,m',em⟩:∃p m',m=p::m':=by
  cases hq:m with
  |nil=>exact absurd hq hm.ne
  |cons p m'=>exact⟨p,m',rfl⟩
 have h1:cC (cG nd D m) (.int 0)=.ok (pU nd D p):=by
  rw[em];unfold cG;rw[jd,show (0:Int)=((0:Nat):Int) from rfl,ft];rfl
 have h2:cC (pU nd D p) (.int 1)=.ok (wU nd D p.2):=by unfold pU;rw[jd,show (1:Int)=((1:Nat):Int) from rfl,ft];rfl
 have h3:gf [wU nd D p.2]=.ok (.int (nd:Nat)):=by unfold wU;rw[lM,ZF,aaa]
 unfold cJ jh;simp only[Pzz,bO,Nat.reduceAdd,Nat.reduceSub,h1,h2,h3,DB nd (by lia)]
def ind (k x:List Int):Int:=if x=k then 1 else 0
theorem pA {α β:Type}(f:α->β->Int):∀(l:List α) (m:List β),(l.map λa=>(m.map λb=>f a b).sum).sum=(m.map λb=>(l.map λa=>f a b).sum).sum
 | [],m=>by
  induction m with
  |nil=>rfl
  |cons b m ih=>rw[ZI,aaf,←ih];rfl
 |a::l,m=>by
  rw[ZI,aaf,pA f l m]
  induction m with
  |nil=>rfl
  |cons b m ih=>
   rw[ZI,ZI,ZI,aaf,aaf,aaf,ZI,aaf];rw[←ih];lia
def G1 (m:Fs)(ss:List (List Int))(d:Nat):Dc:=bu [] (ir (lq d m) (ez ss))
def UI (m:Fs)(ss:List (List Int))(d:Nat):Dc×Int:=(G1 m ss d,1*(ss.length:Nat))
def AE (nd:Nat)(m:Fs)(ss:List (List Int)):Dl:=(ZU nd).map (UI m ss)
section
variable {m:Fs}
theorem LM (hm:pq n nd 1 m)(hs:Sf n ss)(d:Nat):∀p∈ir (lq d m) (ez ss),0<=p.2/\p.1.length=n:=λp hp=>by
 unfold ir at hp;obtain⟨o,ho,hp⟩:=aa8.mp hp;obtain⟨r,hr,rfl⟩:=ZO.mp hp;unfold lq at hr;obtain⟨q,hq,rfl⟩:=ZO.mp hr;have o1:=(uX ss).2.1 o ho;refine⟨ac9 ((hm.el q hq).2 d) (by lia),?_⟩;show (aQ q.1 o.1).length=n;unfold aQ;rw[ZF];exact fI (hs.o _ (yq ho))
theorem NU (hm:pq n nd 1 m)(hs:Sf n ss)(d:Nat):Nd (G1 m ss d)/\Pn (G1 m ss d)/\∀f,j0 (G1 m ss d) f=((ir (lq d m) (ez ss)).map λp=>p.2*f p.1).sum:=by
 obtain⟨a,b,c⟩:=xc (ir (lq d m) (ez ss)) (d:=[]) Ce.1 (λp hp=>by cases hp) λp hp=>(LM hm hs d p hp).1;refine⟨a,b,λf=>?_⟩;show j0 (bu [] _) f=_;rw[c f];show (0:Int)+_=_;rw[aeM]
theorem Qf (hm:pq n nd 1 m)(hs:Sf n ss)(d:Nat)(k:List Int):jZ (G1 m ss d) k=(m.map λp=>(ss.map λo=>p.2 d*ind k (aQ p.1 o)).sum).sum:=by
 obtain⟨gn,gp,gs⟩:=NU hm hs d;rw[←Jb gn k,gs];unfold ir;rw[pd];have e1:((ez ss).map λo=>(((lq d m).map λr=>(aQ r.1 o.1,r.2*o.2)).map λp=>p.2*(if p.1=k then 1 else 0)).sum)=(ez ss).map λo=>o.2*((lq d m).map λr=>r.2*ind k (aQ r.1 o.1)).sum:=by
  apply Z2;intro o _;rw[ZY,←D4,ZY];congr 1;apply Z2;intro r _;show r.2*o.2*(if aQ r.1 o.1=k then 1 else 0)=o.2*(r.2*ind k (aQ r.1 o.1));unfold ind;rw[ado r.2 o.2,abb]
 have e2:((ez ss).map λo=>o.2*((lq d m).map λr=>r.2*ind k (aQ r.1 o.1)).sum).sum=(ss.map λo=>((lq d m).map λr=>r.2*ind k (aQ r.1 o)).sum).sum:=(uX ss).2.2 λ(o:List Int)=>((lq d m).map λ(r:List Int×Int)=>r.2*ind k (aQ r.1 o)).sum;rw[e1,e2,pA (λ(o:List Int) (r:List Int×Int)=>r.2*ind k (aQ r.1 o)) ss (lq d m)];unfold lq;rw[ZY];rfl
theorem FP (d:Nat)(k:List Int):rZ (dw m ss) k d=(m.map λp=>(ss.map λo=>p.2 d*ind k (aQ p.1 o)).sum).sum:=by
 unfold rZ dw;rw[pd];congr 1;apply Z2;intro p _;rw[ZY];congr 1;apply Z2;intro o _;show (if aQ p.1 o=k then p.2 d else 0)=p.2 d*ind k (aQ p.1 o);unfold ind;split
 ·rw[Int.mul_one]
 ·rw[Int.mul_zero]
theorem yr (d:Nat)(k:List Int):k∈(G1 m ss d).map (·.1)↔k∈gI (dw m ss):=by
 have ck:∀o,o∈ss->∃p∈ez ss,p.1=o:=λo ho=>by
  have:o∈(ez ss).map (·.1):=by
   unfold ez;rw[u6];refine (bQ _ _ _).mpr (.inr ?_);rw[ZY];exact ZO.mpr ⟨o,ho,rfl⟩
  obtain⟨p,hp,e⟩:=ZO.mp this;exact⟨p,hp,e⟩
 unfold G1;rw[u6,bQ,fh];constructor
 ·rintro (z|z)
  ·cases z
  ·obtain⟨x,hx,rfl⟩:=ZO.mp z;unfold ir at hx;obtain⟨o,ho,hx⟩:=aa8.mp hx;obtain⟨r,hr,rfl⟩:=ZO.mp hx;unfold lq at hr;obtain⟨p,hp,rfl⟩:=ZO.mp hr;exact ZO.mpr ⟨(aQ p.1 o.1,p.2),aa8.mpr ⟨p,hp,ZO.mpr ⟨o.1,yq ho,rfl⟩⟩,rfl⟩
 ·intro z;obtain⟨x,hx,rfl⟩:=ZO.mp z;unfold dw at hx;obtain⟨p,hp,hx⟩:=aa8.mp hx;obtain⟨o,ho,rfl⟩:=ZO.mp hx;obtain⟨q,hq,rfl⟩:=ck o ho;refine .inr (ZO.mpr ⟨(aQ p.1 q.1,p.2 d*q.2),?_,rfl⟩);unfold ir;refine aa8.mpr ⟨q,hq,ZO.mpr ⟨(p.1,p.2 d),?_,rfl⟩⟩;unfold lq;exact ZO.mpr ⟨p,hp,rfl⟩
theorem Jr (hm:pq n nd 1 m):(aP (iL (AE nd m ss))).Perm (gI (dw m ss)):=by
 refine (aeA (kW _ _ abi) (jO _)).mpr λk=>?_;rw[bQ];unfold iL AE;constructor
 ·rintro (z|z)
  ·cases z
  ·obtain⟨x,hx,hk⟩:=aa8.mp z;obtain⟨d,_,rfl⟩:=ZO.mp hx;exact (yr d k).mp hk
 ·intro z;exact .inr (aa8.mpr ⟨UI m ss 0,ZO.mpr ⟨0,Z6.mpr hm.n1,rfl⟩,(yr 0 k).mpr z⟩)
theorem Vy (hm:pq n nd 1 m)(hs:Sf n ss)(hl:ss.length*m.length<=60):Tc (AE nd m ss):=by
 have l1:=hs.l1;have l2:=hs.l2;have d1:=hm.d1;have n2:=hm.n2;refine⟨λx hx=>?_,by unfold AE;rw[ZF,aaa];exact n2,?_⟩
 ·obtain⟨d,_,rfl⟩:=ZO.mp hx;obtain⟨_,gp,_⟩:=NU hm hs d;have D1:0<(1:Int)*(ss.length:Nat):=aex (by lia) (by lia);have D2:(1:Int)*(ss.length:Nat)<=400000*24:=Int.mul_le_mul (by lia) (by lia) (by lia) (by decide);have kk:=λk=>yr (m:=m) (ss:=ss) d k;refine⟨λe=>?_,?_,gp,D1,(by show (1:Int)*(ss.length:Nat)<=_;lia),λp hp e=>?_⟩
  ·obtain⟨x,F',ef⟩:∃x F',dw m ss=x::F':=by
    cases hq:dw m ss with
    |nil=>exact absurd hq (Ee hm hs)
    |cons x F'=>exact⟨x,F',rfl⟩
   have:=(kk x.1).mpr (fh.mpr (by rw[ef];exact ZG));have e':G1 m ss d=[]:=e;rw[e'] at this;cases this
  ·show (G1 m ss d).length<=2000;have h1:=kT (ir (lq d m) (ez ss));rw[xb] at h1;have h2:(ez ss).length*(lq d m).length<=ss.length*m.length:=Nat.mul_le_mul (Ef ss) (by unfold lq;rw[ZF];exact ZS _);unfold G1;lia
  ·have:=(kk p.1).mp (aaB hp);obtain⟨x,hx,ex⟩:=ZO.mp (fh.mp this);have:=(sP hm hs x hx).1;rw[ex,e] at this;have:=hs.n1;simp at *;lia
 ·rw[(Jr hm).length_eq];have:=mL (dw m ss);rw[u5,aa6] at this;lia
theorem Js (hm:pq n nd 1 m)(hs:Sf n ss)(hl:ss.length*m.length<=60):∃o3 o4,bY (ba 3) gj (aY 0 nd) [some (cG nd 1 m),some (SU ss),some (.lst []),none,none]=.nx [some (cG nd 1 m),some (SU ss),some (.lst ((AE nd m ss).map r9)),o3,o4]:=by
 have sz:ZL=16777216:=rfl;have n2:=hm.n2;have d1:=hm.d1;have l2:=hs.l2;have lS:gf [SU ss]=.ok (.int (ss.length:Nat)):=by unfold SU;rw[lM,ZF]
 obtain⟨ρ,e,o3,o4,rfl⟩:=cZ (us:=aY 0 nd) (sg:=ba 3) (s:=gj)
  (λi ρ=>∃o3 o4,ρ=[some (cG nd 1 m),some (SU ss),some (.lst ((AE i m ss).map r9)),o3,o4])
  (λi u ρ hu h00=>by
   obtain⟨o3,o4,hr⟩:=h00;subst hr;have hi:i<nd:=by
    rcases acL i nd with y|y
    ·exact y
    ·rw[aaY.mpr (by rw[fK];exact y)] at hu;cases hu
   obtain rfl:u=.int (i:Nat):=by
    rw[lP] at hu;unfold az at hu;rw[ZY,ZT,aaT hi] at hu;cases hu;rfl
   have ww:=S_ hm hi;have wl:(lq i m).length=m.length:=by unfold lq;rw[ZF]
   have sp:=FO (W:=lq i m) (λe=>hm.ne (by unfold lq at e;exact List.map_eq_nil_iff.mp e)) (by rw[wl];have:=hm.ln;lia) (n:=n) (λr hr=>by
    unfold lq at hr;obtain⟨p,hp,rfl⟩:=ZO.mp hr;exact (hm.el p hp).1) hs (by rw[wl];lia)
   have cm:k_ (1:Int) ((ss.length:Nat):Int)=true:=nH (by lia) (by lia);have z:((AE i m ss).map r9).length<ZL:=by unfold AE;rw[ZF,ZF,aaa];lia
   have ef:AE (i+1) m ss=AE i m ss++[UI m ss i]:=by unfold AE;rw[List.range_succ,aad];rfl
   rw[ef];have h0:cC (.tup [DU (lq i m),.int 1]) (.int 0)=.ok (DU (lq i m)):=by rw[jd,show (0:Int)=((0:Nat):Int) from rfl,ft];rfl
   have h1:cC (.tup [DU (lq i m),.int 1]) (.int 1)=.ok (.int 1):=by rw[jd,show (1:Int)=((1:Nat):Int) from rfl,ft];rfl
   refine⟨[some (cG nd 1 m),some (SU ss),some (.lst ((AE i m ss).map r9)),some (.int (i:Nat)),o4],[some (cG nd 1 m),some (SU ss),some (.lst ((AE i m ss++[UI m ss i]).map r9)),some (.int (i:Nat)),some (.tup [DU (lq i m),.int 1])],rfl,.inl ?_,_,_,rfl⟩;unfold gj;simp only[Pzz,bO,Nat.reduceAdd,Nat.reduceSub,ww,h0,h1,sp,lS,cm,Eh,z];simp only[aad];rfl)
  (ρ:=[some (cG nd 1 m),some (SU ss),some (.lst []),none,none]) ⟨_,_,rfl⟩
 rw[fK] at e;exact⟨o3,o4,e⟩
theorem Jt (hm:pq n nd 1 m)(hs:Sf n ss)(hl:ss.length*m.length<=60):bB [cG nd 1 m,SU ss]=.ok (cG nd (1*(ss.length:Nat)) (iX (dw m ss))):=by
 obtain⟨o3,o4,e⟩:=Js hm hs hl;have so:=Ei (Vy hm hs hl);have dn:=NT hm;have fin:U.tup ((eF (aP (iL (AE nd m ss)))).map (pz (AE nd m ss)))=cG nd (1*(ss.length:Nat)) (iX (dw m ss)):=by
  unfold cG iX;rw[vS (Jr hm),ZY];congr 1;apply Z2;intro k _;show pz (AE nd m ss) k=pU nd (1*(ss.length:Nat)) (k,rZ (dw m ss) k);unfold pz pU wU AE;rw[ZY];congr 4;apply Z2;intro d _;show fP (c7 (jZ (G1 m ss d) k) ((1:Int)*(ss.length:Nat)))=_;rw[Qf hm hs,←FP]
 rw[fin] at so;unfold bB jX;simp only[Pzz,bO,Nat.reduceAdd,Nat.reduceSub,dn,e,D_,so,yo]
theorem Qg (hm:pq n nd 1 m)(hs:Sf n ss)(hl:ss.length*m.length<=60)(hD:(1:Int)*(ss.length:Nat)<=400000):pq n nd (1*(ss.length:Nat)) (iX (dw m ss)):=by
 have ks:(iX (dw m ss)).map (·.1)=eF (gI (dw m ss)):=by unfold iX;rw[ZY];exact List.map_id' _
 have kl:=mL (dw m ss);rw[u5,aa6] at kl;refine⟨λe=>?_,by rw[ks];exact (aM _).symm.nodup (jO _),λp hp=>?_,?_,aex hm.d0 (by have:=hs.l1;lia),hD,hm.n1,hm.n2⟩
 ·rw[e] at ks;have h1:=(aM (gI (dw m ss)));rw[←ks] at h1;have h2:=List.nil_perm.mp h1;obtain⟨x,F',ef⟩:∃x F',dw m ss=x::F':=by
   cases hq:dw m ss with
   |nil=>exact absurd hq (Ee hm hs)
   |cons x F'=>exact⟨x,F',rfl⟩
  have:x.1∈gI (dw m ss):=fh.mpr (by rw[ef];exact ZG);rw[h2] at this;cases this
 ·unfold iX at hp;obtain⟨k,hk,rfl⟩:=ZO.mp hp;obtain⟨x,hx,rfl⟩:=ZO.mp (fh.mp ((aM _).mem_iff.mp hk));exact⟨(sP hm hs x hx).1,Ed (λx hx=>(sP hm hs x hx).2) _⟩
 ·unfold iX;rw[ZF,(aM _).length_eq];lia
end
def un (k j:Nat):Int:=if j=k then 1 else 0
def F0 (rows:List (List Int)):Fs:=(ZU rows.length).map λk=>(rows.getD k [],un k)
theorem AF {α β:Type}(f:α->β)(z:α)(l:List α):l.map f=(ZU l.length).map λd=>f (l.getD d z):=by
 apply aef
 ·rw[ZF,ZF,aaa]
 ·intro i h1 h2;rw[ZF] at h1;rw[adf,adf,adD,ZV,ZH h1];rfl
theorem Cm (rows:List (List Int)):(F0 rows).map (·.1)=rows:=by
 unfold F0;rw[ZY];have:=AF (λx:List Int=>x) [] rows;rw[List.map_id'] at this;exact this.symm
theorem Ju (rows:List (List Int)):(F0 rows).length=rows.length:=by unfold F0;rw[ZF,aaa]
theorem NV (rows:List (List Int)):∀x∈F0 rows,∀d,0<=x.2 d:=λx hx d=>by
 unfold F0 at hx;obtain⟨k,_,rfl⟩:=ZO.mp hx;show 0<=un k d;unfold un;split<;>decide
theorem Qh {x:List Int×(Nat->Int)}(hx:x∈F0 rows):x.1∈rows:=by
 have:=aaB (f:=λy:List Int×(Nat->Int)=>y.1) hx
 rwa [Cm] at this
theorem yt (g:Nat->Int)(d:Nat):∀N:Nat,((ZU N).map λi=>if d=i then g i else 0).sum=if d<N then g d else 0
 |0=>by rw[hV (by lia)];rfl
 |N+1=>by
  rw[List.range_succ,aad,List.sum_append,yt g d N,ZI,aaI,aaf,List.sum_nil,Int.add_zero];by_cases c:d=N
  ·subst c;rw[hV (by lia),hZ rfl,hZ (by lia),aeM]
  ·rw[hV c,Int.add_zero];by_cases c2:d<N
   ·rw[hZ c2,hZ (by lia)]
   ·rw[hV c2,hV (by lia)]
theorem LN {k:List Int}{d:Nat}(hd:d<rows.length):rZ (F0 rows) k d=if rows.getD d []=k then 1 else 0:=by
 unfold rZ F0;rw[ZY];have e:(ZU rows.length).map ((λx:List Int×(Nat->Int)=>if x.1=k then x.2 d else 0)∘λi=>(rows.getD i [],un i))=(ZU rows.length).map λi=>if d=i then (if rows.getD i []=k then (1:Int) else 0) else 0:=by
  apply Z2;intro i _;show (if rows.getD i []=k then un i d else 0)=_;unfold un;by_cases c:d=i
  ·rw[hZ c,hZ c]
  ·rw[hV c,hV c];split<;>rfl
 rw[e,yt _ d,hZ hd]
structure Td (n:Nat)(rows:List (List Int)):Prop where
 n1:1<=n
 n8:n<=8
 l:∀r∈rows,r.length=n
 l1:1<=rows.length
 l2:rows.length<=4
theorem Vz (h:Td n rows):∀r∈rows,r≠[]:=λr hr e=>by
 have:=h.l r hr;rw[e] at this;have:=h.n1;simp at *;lia
def L0 (rows:List (List Int)):Dl:=rows.map λr=>([(r,1)],1)
theorem yu:∀rows:List (List Int),iL (L0 rows)=rows
 | []=>rfl
 |r::rows=>by
  have:=yu rows;unfold iL L0 at this ⊢;rw[ZI,abG,this];rfl
theorem Jv (r k:List Int):jZ [(r,1)] k=if r=k then 1 else 0:=by
 rw[i8];by_cases c:r=k
 ·rw[hZ c,hZ c]
 ·rw[hV c,hV c];rfl
theorem VA {i:Int}{ks:List Int}(h:ρ[j]? = some (some (ah ks))):QZ j i ρ=.ok (.dct [ah ks] [.int i],ρ):=by
 unfold QZ;rw[h];unfold ah;dsimp only;exact hZ (ko ks)
theorem Te (h:Td n rows):Tc (L0 rows):=by
 have l2:=h.l2;refine⟨λx hx=>?_,by unfold L0;rw[ZF];exact l2,?_⟩
 ·obtain⟨r,hr,rfl⟩:=ZO.mp hx;refine⟨List.cons_ne_nil _ _,by simp,λp hp=>?_,(show (0:Int)<1 by decide),(show (1:Int)<=10000000 by decide),λp hp=>?_⟩
  ·rw[Z1.mp hp];exact (show (0:Int)<=1 by decide)
  ·rw[Z1.mp hp];exact Vz h r hr
 ·rw[yu];have:=kq rows [];unfold aP;simp at this ⊢;lia
theorem Qi (h:Td n rows)(hu:∀ρ,jB u ρ=.ok (rows.map ah,ρ)):mI [u]=.ok (cG rows.length 1 (iX (F0 rows))):=by
 have l2:=h.l2;have so:=Ei (Te h);have el:=bI (f:=oE [none] (ba 0) cu (aV (af (QZ 0 1) (af (gC (.int 1)) au))) [some u]) (c:=ah) (g:=λr=>r9 ([(r,1)],1)) (xs:=rows) λr _=>by
  have d:=VA (j:=0) (i:=1) (ks:=r) (ρ:=[some (ah r)]) rfl;simp only[Pzz,bO,Nat.reduceAdd,Nat.reduceSub,d];rfl
 have sz:(rows.map λr=>r9 ([(r,1)],1)).length<=ZL:=by
  have:ZL=16777216:=rfl;rw[ZF];lia
 have e0:(L0 rows).map r9=rows.map λr=>r9 ([(r,1)],1):=by unfold L0;rw[ZY];rfl
 rw[e0] at so;have fin:U.tup ((eF (aP (iL (L0 rows)))).map (pz (L0 rows)))=cG rows.length 1 (iX (F0 rows)):=by
  unfold cG iX gI;rw[yu,Cm,ZY];congr 1;apply Z2;intro k _;show pz (L0 rows) k=pU rows.length 1 (k,rZ (F0 rows) k);unfold pz pU wU L0;rw[ZY,AF _ [] rows];congr 4;apply Z2;intro d hd;show fP (c7 (jZ [(rows.getD d [],1)] k) 1)=fP (c7 (rZ (F0 rows) k d) 1);rw[LN (Z6.mp hd),Jv]
 rw[fin] at so;unfold mI xU;simp only[Pzz,bO,Nat.reduceAdd,Nat.reduceSub,hu,el,sz,so]
theorem LO (h:Td n rows):pq n rows.length 1 (iX (F0 rows)):=by
 have l1:=h.l1;have l2:=h.l2;have ks:(iX (F0 rows)).map (·.1)=eF (gI (F0 rows)):=by unfold iX;rw[ZY];exact List.map_id' _
 have kl:=mL (F0 rows);rw[Ju] at kl;refine⟨λe=>?_,by rw[ks];exact (aM _).symm.nodup (jO _),λp hp=>?_,?_,by decide,by decide,l1,l2⟩
 ·rw[e] at ks;have h1:=(aM (gI (F0 rows)));rw[←ks] at h1;have h2:=List.nil_perm.mp h1;have:rows[0]∈gI (F0 rows):=fh.mpr (by rw[Cm];exact aau _);rw[h2] at this;cases this
 ·unfold iX at hp;obtain⟨k,hk,rfl⟩:=ZO.mp hp;obtain⟨x,hx,rfl⟩:=ZO.mp (fh.mp ((aM _).mem_iff.mp hk));exact⟨h.l x.1 (Qh hx),Ed (NV rows) _⟩
 ·unfold iX;rw[ZF,(aM _).length_eq];lia
theorem mN {α:Type}{f:α->U}{g:α->D}(h:∀x,kH (f x)=some (g x)):∀l:List α,ja (l.map f)=some (l.map g)
 | []=>by unfold ja;rfl
 |x::l=>by rw[ZI];unfold ja;rw[h x,mN h l];rfl
theorem u7 {α:Type}{g:α->D}{c:Nat}(h:∀x,eY (g x)<=c):∀l:List α,i_ (l.map g)<=c
 | []=>by rw[aaI];unfold i_;exact abc _
 |x::l=>by
  rw[ZI];unfold i_;have:=h x;have:=u7 h l;lia
theorem xf {α:Type}{f:U->R (Option U)}{c:α->U}{p:α->Bool}:∀{xs:List α},(∀x∈xs,f (c x)=.ok (if p x=true then some (c x) else none))->AX f (xs.map c)=.ok ((xs.filter p).map c)
 | [],_=>rfl
 |x::xs,h=>by
  rw[ZI];unfold AX;rw[h x ZG];show (AX f (xs.map c)).bind _=_;rw[xf λy hy=>h y (ZK _ hy)];show R.ok _=_;rw[adg];cases p x<;>rfl
theorem Jw {s:Ev->SR}(I:Nat->Ev->Prop)(step:∀(j:Nat) (u:U) (ρ:Ev),us[j]? = some u->I j ρ->∃ρ1 ρ2,sg u (ρ.set i none)=.ok ρ1/\s (ρ1.set i (ρ[i]?.getD none))=.nx ρ2/\I (j+1) ρ2)(h:I 0 ρ) :
  ∃ρ',xQ i sg s us ρ=.nx ρ'/\I us.length ρ':=by
 have gen:∀(n j:Nat) (ρ:Ev),j+n=us.length->I j ρ->∃ρ',xQ i sg s (us.drop j) ρ=.nx ρ'/\I us.length ρ':=by
  intro n
  induction n with
  |zero=>
   intro j ρ hj h;have:j=us.length:=by lia
   subst this;rw[acw];exact⟨ρ,rfl,h⟩
  |succ n ih=>
   intro j ρ hj h;have vU:j<us.length:=by lia
   obtain⟨ρ1,ρ2,a,b,c⟩:=step j us[j] ρ (ZH vU) h;obtain⟨ρ',d,e⟩:=ih (j+1) ρ2 (by lia) c;refine⟨ρ',?_,e⟩;rw[aaL vU];unfold xQ;rw[a];show (match s (ρ1.set i (ρ[i]?.getD none)) with|.nx ρ2=>_|.ct ρ2=>_|.bk ρ2=>_|r=>_)=_;rw[b];exact d
 have:=gen us.length 0 ρ (by lia) h
 rwa [ac6] at this
structure Q1 (n:Nat)(ps:List Int):Prop where
 ne:ps≠[]
 mem:∀i∈ps,0<=i/\i<n
 ln:ps.length<=8
def iQ (ps:List Int)(p:List Int×(Nat->Int)):List Int:=aQ p.1 ps
def oA (ps k:List Int)(p:List Int×(Nat->Int)):Bool:=decide (iQ ps p=k)
def Lk (m:Fs)(ps:List Int):List (List Int×Fs):=(eF (aP (m.map (iQ ps)))).map λk=>(k,m.filter (oA ps k))
def LP (nd:Nat)(D:Int)(x:List Int×Fs):U:=.tup [ah x.1,cG nd D x.2]
def vT (nd:Nat)(D:Int)(L:List (List Int×Fs)):U:=.lst (L.map (LP nd D))
section
variable {D:Int}{m:Fs}{ps:List Int}
theorem Jx (hm:pq n nd D m)(hp:Q1 n ps){p:List Int×(Nat->Int)}(h:p∈m):b9 [ah p.1,ah ps]=.ok (ah (iQ ps p)):=AB (λi hi=>by rw[(hm.el p h).1];exact hp.mem i hi) (by have:=hp.ln;lia)
theorem Tf (hp:Q1 n ps)(p:List Int×(Nat->Int)):iQ ps p≠[]:=λe=>by
 have:(iQ ps p).length=ps.length:=by unfold iQ aQ;rw[ZF]
 rw[e] at this;exact hp.ne (List.length_eq_zero_iff.mp this.symm)
theorem Co (hm:pq n nd D m):(aP (m.map (iQ ps))).length<=60:=by
 have:=kq (m.map (iQ ps)) [];have h2:=hm.ln;unfold aP;rw[ZF] at this;simp at this;lia
theorem WZ (p:List Int×(Nat->Int)):cC (pU nd D p) (.int 0)=.ok (ah p.1):=by unfold pU;rw[jd,show (0:Int)=((0:Nat):Int) from rfl,ft];rfl
end
section
variable {D:Int}{m:Fs}{ps:List Int}
def DF (ks:List (List Int))(f:List Int->U):U:=.dct (ks.map ah) (ks.map f)
def vP (nd:Nat)(D:Int)(ps:List Int)(m:Fs)(k:List Int):U:=.lst ((m.filter (oA ps k)).map (pU nd D))
def PT (nd:Nat)(D:Int)(ps:List Int)(m:Fs):U:=DF (aP (m.map (iQ ps))) (vP nd D ps m)
theorem Cp {ks:List (List Int)}{k:List Int}:k∈fA ks k:=by
 unfold fA;split
 ·assumption
 ·exact Z9 _ ZG
theorem u9 {ks:List (List Int)}{k:List Int}(h:k∈ks):fA ks k=ks:=hZ h
theorem Qj {k:List Int}(h:k∉aP (m.map (iQ ps))):vP nd D ps m k=.lst []:=by
 have e:m.filter (oA ps k)=[]:=List.filter_eq_nil_iff.mpr λp hp e=>h ((bQ _ _ _).mpr (.inr (ZO.mpr ⟨p,hp,of_decide_eq_true e⟩)));unfold vP;rw[e];rfl
theorem Qk {k:List Int}(hl:(aP (m.map (iQ ps))).length<100000) :
  II 2 (ag 5) (wY 2 0 (ag 5)) bS [x0,x1,some (PT nd D ps m),x3,x4,some (ah k)]=.nx [x0,x1,some (DF (fA (aP (m.map (iQ ps))) k) (vP nd D ps m)),x3,x4,some (ah k)]:=by
 have sz:ZL=16777216:=rfl;have g5:ag 5 ([x0,x1,some (PT nd D ps m),x3,x4,some (ah k)].set 2 none)=.ok (ah k,[x0,x1,none,x3,x4,some (ah k)]):=rfl;unfold II;rw[g5];dsimp only[L2.SR.of];show (if oK (ah k)=true then (if (cX ((aP (m.map (iQ ps))).map ah) ((aP (m.map (iQ ps))).map (vP nd D ps m)) (ah k)).isSome=true then bS _ else wY 2 0 (ag 5) _) else _)=_;rw[hZ (ko k),u4];by_cases c:k∈aP (m.map (iQ ps))
 ·rw[hZ c,hZ (show (some (vP nd D ps m k)).isSome=true from rfl),u9 c];rfl
 ·rw[hV c,hV (by decide)];unfold wY;rw[g5];dsimp only[L2.SR.of];show (if oK (ah k)=true/\((aP (m.map (iQ ps))).map (vP nd D ps m)).length<ZL then (match cX ((aP (m.map (iQ ps))).map ah) ((aP (m.map (iQ ps))).map (vP nd D ps m)) (ah k) with|none=>_|some _=>_) else _)=_;rw[hZ ⟨ko k,by rw[ZF,sz];lia⟩,u4,hV c];show SR.nx [x0,x1,some (.dct (dv _ _) (cx _ _ _ _)),x3,x4,some (ah k)]=_;rw[Eb,Ec];unfold DF;congr 6;refine Z2 λx hx=>?_;by_cases e:x=k
  ·rw[hZ e,e,Qj c];rfl
  ·rw[hV e]
theorem Ql {k:List Int}{p:List Int×(Nat->Int)}(hk:iQ ps p=k)(hl:m.length<100000) :
  IE 2 (B2 2 (uD 2) (ag 5)) (aV (af (ag 3) (af (ag 4) au))) [x0,x1,some (DF (fA (aP (m.map (iQ ps))) k) (vP nd D ps m)),some (ah p.1),some (wU nd D p.2),some (ah k)]=.nx [x0,x1,some (PT nd D ps (m++[p])),some (ah p.1),some (wU nd D p.2),some (ah k)]:=by
 have sz:ZL=16777216:=rfl;have fl:=aea (oA ps k) m;have r2:B2 2 (uD 2) (ag 5) [x0,x1,some (DF (fA (aP (m.map (iQ ps))) k) (vP nd D ps m)),some (ah p.1),some (wU nd D p.2),some (ah k)]=.ok (vP nd D ps m k,λw=>.dct (dv ((fA (aP (m.map (iQ ps))) k).map ah) (ah k)) (cx ((fA (aP (m.map (iQ ps))) k).map ah) ((fA (aP (m.map (iQ ps))) k).map (vP nd D ps m)) (ah k) w)):=by
  unfold B2;have a1:uD 2 [x0,x1,some (DF (fA (aP (m.map (iQ ps))) k) (vP nd D ps m)),some (ah p.1),some (wU nd D p.2),some (ah k)]=.ok (DF (fA (aP (m.map (iQ ps))) k) (vP nd D ps m),id):=rfl;have g5:ag 5 ([x0,x1,some (DF (fA (aP (m.map (iQ ps))) k) (vP nd D ps m)),some (ah p.1),some (wU nd D p.2),some (ah k)].set 2 none)=.ok (ah k,[x0,x1,none,some (ah p.1),some (wU nd D p.2),some (ah k)]):=rfl;rw[a1];dsimp only[L2.R.bind];rw[g5];dsimp only[L2.R.bind];unfold DF;dsimp only;rw[hZ (ko k),u4,hZ Cp];rfl
 unfold IE;rw[r2];dsimp only[L2.SR.of];have gv:aV (af (ag 3) (af (ag 4) au)) ([x0,x1,some (DF (fA (aP (m.map (iQ ps))) k) (vP nd D ps m)),some (ah p.1),some (wU nd D p.2),some (ah k)].set 2 none)=.ok (pU nd D p,[x0,x1,none,some (ah p.1),some (wU nd D p.2),some (ah k)]):=by
  show aV _ [x0,x1,none,some (ah p.1),some (wU nd D p.2),some (ah k)]=_;simp only[Pzz,bO,Nat.reduceAdd,Nat.reduceSub];rfl
 rw[gv];dsimp only[L2.SR.of];unfold vP;dsimp only;rw[hZ (by rw[ZF,sz];lia)];show SR.nx [x0,x1,some (.dct _ _),some (ah p.1),some (wU nd D p.2),some (ah k)]=_;rw[Eb,u9 Cp,Ec,u9 Cp];have ek:aP ((m++[p]).map (iQ ps))=fA (aP (m.map (iQ ps))) k:=by
  unfold aP;rw[aad,ae4,ZI,aaI,hk];rfl
 unfold PT DF;rw[ek];congr 6;refine Z2 λx hx=>?_;unfold vP;rw[List.filter_append,aad];by_cases e:x=k
 ·subst e;rw[hZ rfl,List.filter_cons_of_pos (by unfold oA;exact hG hk)];rfl
 ·rw[hV e,List.filter_cons_of_neg (by unfold oA;rw[decide_eq_true_eq,hk];exact λz=>e z.symm),List.filter_nil,aaI,aaW]
def Q2:Ev->SR:=(aK (Ab 2 (ba 5) (fy 2 b9 (af (ag 3) (af (ag 1) au)))) (aK (II 2 (ag 5) (wY 2 0 (ag 5)) bS) (IE 2 (B2 2 (uD 2) (ag 5)) (aV (af (ag 3) (af (ag 4) au))))))
theorem FQ {M:Fs}(hm:pq n nd D M)(hp:Q1 n ps){p:List Int×(Nat->Int)}(h:p∈M)(hl:m.length<10000) :
  Q2 [x0,some (ah ps),some (PT nd D ps m),some (ah p.1),some (wU nd D p.2),o5]=.nx [x0,some (ah ps),some (PT nd D ps (m++[p])),some (ah p.1),some (wU nd D p.2),some (ah (iQ ps p))]:=by
 have ca:=Jx hm hp h;have kl:(aP (m.map (iQ ps))).length<100000:=by
  have:=kq (m.map (iQ ps)) [];unfold aP;rw[ZF] at this;simp at this;lia
 have a1:Ab 2 (ba 5) (fy 2 b9 (af (ag 3) (af (ag 1) au))) [x0,some (ah ps),some (PT nd D ps m),some (ah p.1),some (wU nd D p.2),o5]=.nx [x0,some (ah ps),some (PT nd D ps m),some (ah p.1),some (wU nd D p.2),some (ah (iQ ps p))]:=by
  have g:fy 2 b9 (af (ag 3) (af (ag 1) au)) ([x0,some (ah ps),some (PT nd D ps m),some (ah p.1),some (wU nd D p.2),o5].set 2 none)=.ok (ah (iQ ps p),[x0,some (ah ps),none,some (ah p.1),some (wU nd D p.2),o5]):=by
   show fy 2 b9 _ [x0,some (ah ps),none,some (ah p.1),some (wU nd D p.2),o5]=_;simp only[Pzz,bO,Nat.reduceAdd,Nat.reduceSub,ca]
  unfold Ab;rw[g];rfl
 unfold Q2;simp only[Pzz,bO,Nat.reduceAdd,Nat.reduceSub,a1,Qk kl,Ql (m:=m) (p:=p) (ps:=ps) (k:=iQ ps p) rfl (by lia)]
theorem Tg:ji=aK (bp 2 O_) (aK (wX 2 (wW 2 (c_ (ag 0)) (bz 2 (ay (ba 3) (ay (ba 4) bx))) Q2)) (vE 2 (bc (gE (c_ (iD uB (af (ag 2) au))) [none,some 2] (ba 0) cu (aV (af (ag 0) (af (iD cW (af (aU zz (ag 1) (ag 0)) au)) au))))))):=rfl
theorem yv (hm:pq n nd D m)(hp:Q1 n ps):bU [cG nd D m,ah ps]=.ok (vT nd D (Lk m ps)):=by
 have sz:ZL=16777216:=rfl;have ln:=hm.ln;have kl:=Co (ps:=ps) hm;obtain⟨ρ,e,o3,o4,o5,rfl⟩:=Jw (i:=2) (us:=m.map (pU nd D)) (sg:=bz 2 (ay (ba 3) (ay (ba 4) bx))) (s:=Q2) (λj ρ=>∃o3 o4 o5,ρ=[some (cG nd D m),some (ah ps),some (PT nd D ps (m.take j)),o3,o4,o5])
  (λj u ρ hu h00=>by
   obtain⟨o3,o4,o5,hr⟩:=h00;subst hr;have hj:j<m.length:=by have:=(ZQ.mp hu).1;rwa [ZF] at this
   rw[ZT,ZH hj] at hu;obtain rfl:pU nd D m[j]=u:=by injection hu
   have q:=FQ hm hp (aau hj) (m:=m.take j) (by rw[abk];lia) (x0:=some (cG nd D m)) (o5:=o5);refine⟨[some (cG nd D m),some (ah ps),none,some (ah m[j].1),some (wU nd D m[j].2),o5],[some (cG nd D m),some (ah ps),some (PT nd D ps (m.take (j+1))),some (ah m[j].1),some (wU nd D m[j].2),some (ah (iQ ps m[j]))],Ci,?_,_,_,_,rfl⟩;rw[aai hj];exact q)
  (ρ:=[some (cG nd D m),some (ah ps),some (.dct [] []),none,none,none]) ⟨_,_,_,rfl⟩
 rw[ZF,aa7] at e;have e':wW 2 (c_ (ag 0)) (bz 2 (ay (ba 3) (ay (ba 4) bx))) Q2 [some (cG nd D m),some (ah ps),some (.dct [] []),none,none,none]=.nx [some (cG nd D m),some (ah ps),some (PT nd D ps m),o3,o4,o5]:=e;have dp:wX 2 (wW 2 (c_ (ag 0)) (bz 2 (ay (ba 3) (ay (ba 4) bx))) Q2) [some (cG nd D m),some (ah ps),some (.dct [] []),none,none,none]=.nx [some (cG nd D m),some (ah ps),some (PT nd D ps m),o3,o4,o5]:=by
  unfold wX;show (match wW _ _ _ _ _ with|.nx ρ'=>_|.bk ρ'=>_|.ct ρ'=>_|_=>_)=_;rw[e']
 have kne:aP (m.map (iQ ps))≠[]:=λz=>by
  cases hq:m with
  |nil=>exact hm.ne hq
  |cons p m'=>
   have:iQ ps p∈aP (m.map (iQ ps)):=(bQ _ _ _).mpr (.inr (by rw[hq];exact ZG));rw[z] at this;cases this
 have so:uB [PT nd D ps m]=.ok (.lst ((eF (aP (m.map (iQ ps)))).map ah)):=P_ kne (by lia) λk hk=>by
  rcases (bQ _ _ _).mp hk with z|z
  ·cases z
  ·obtain⟨p,_,rfl⟩:=ZO.mp z;exact Tf hp p
 have el:=bI (f:=oE [none,some 2] (ba 0) cu (aV (af (ag 0) (af (iD cW (af (aU zz (ag 1) (ag 0)) au)) au))) [some (cG nd D m),some (ah ps),some (PT nd D ps m),o3,o4,o5]) (c:=ah) (g:=λk=>LP nd D (k,m.filter (oA ps k))) (xs:=eF (aP (m.map (iQ ps)))) λk hk=>by
  have Q4:=(aM _).mem_iff.mp hk;have dx:zz (PT nd D ps m) (ah k)=.ok (vP nd D ps m k):=by
   unfold PT DF zz;dsimp only;rw[hZ (show nF _ (ah k)=true by
    unfold nF;rw[ko,Bool.true_and];have:((aP (m.map (iQ ps))).map ah).all G3=true:=aag.mpr λu hu=>by
     obtain⟨k,_,rfl⟩:=ZO.mp hu;rfl
    rw[this,Bool.or_true]),u4,hZ Q4]
  unfold vP at dx;simp only[Pzz,bO,Nat.reduceAdd,Nat.reduceSub,dx];rfl
 have z1:((eF (aP (m.map (iQ ps)))).map λk=>LP nd D (k,m.filter (oA ps k))).length<=ZL:=by rw[ZF,(aM _).length_eq];lia
 unfold bU;rw[Tg];simp only[Pzz,bO,Nat.reduceAdd,Nat.reduceSub,D_,dp,so,el,z1,yo];unfold vT Lk;rw[ZY];rfl
end
theorem LQ {D S:Int}(hD:0<D)(XC:D<=10000000)(hS:0<=S)(hg:Cj D g):uG [fP (c7 S D),fP g]=.ok (fP (c7 (S+wt D g) D)):=by
 obtain⟨r1,r2,r3,_,r5⟩:=qr hS hD;have ZA:(c7 S D).2<=D:=Int.le_of_dvd hD r5;have ZC:g.2<=D:=Int.le_of_dvd hD hg.2.2;have g2:=hg.2.1;have c1:k_ (c7 S D).1 g.2=true:=nH (by lia) (by lia);have c2:k_ g.1 (c7 S D).2=true:=nH (by lia) (by lia);have c3:k_ (c7 S D).2 g.2=true:=nH (by lia) (by lia);have m1:(c7 S D).2*g.2<=10000000*10000000:=Int.mul_le_mul (by lia) (by lia) (by lia) (by lia);have q:=AD (t:=(c7 S D).1*g.2+g.1*(c7 S D).2) (b:=(c7 S D).2*g.2)
  (Int.add_nonneg (ac9 r1 (by lia)) (ac9 hg.1 (by lia))) (aex r2 g2) (by lia)
 rw[Jm hD hS hg] at q;unfold uG B5;unfold fP at q ⊢;simp only[Pzz,bO,Nat.reduceAdd,Nat.reduceSub,c1,c2,c3,q]
theorem Qm {D:Int}(hD:0<D)(XC:D<=10000000){l:List (Int×Int)}(h:∀g∈l,Cj D g):kN [.lst (l.map fP)]=.ok (fP (c7 ((l.map (wt D)).sum) D)):=by
 obtain⟨ρ,e,o2,rfl⟩:=cZ (us:=l.map fP) (sg:=ba 2) (s:=uH)
  (λi ρ=>∃o2,ρ=[some (.lst (l.map fP)),some (fP (c7 (((l.take i).map (wt D)).sum) D)),o2])
  (λi u ρ hu h00=>by
   obtain⟨o2,hr⟩:=h00;subst hr;have hi:i<l.length:=by have:=(ZQ.mp hu).1;rwa [ZF] at this
   rw[ZT,ZH hi] at hu;obtain rfl:fP l[i]=u:=by injection hu
   have q:=LQ hD XC (Jl hD (l:=l.take i) λx hx=>h x (List.mem_of_mem_take hx)) (h _ (aau hi));have sm:(((l.take (i+1)).map (wt D)).sum)=((l.take i).map (wt D)).sum+wt D l[i]:=by
    rw[aai hi,aad,List.sum_append,ZI,aaI,aaf,List.sum_nil,Int.add_zero]
   rw[sm];refine⟨[some (.lst (l.map fP)),some (fP (c7 (((l.take i).map (wt D)).sum) D)),some (fP l[i])],[some (.lst (l.map fP)),some (fP (c7 (((l.take i).map (wt D)).sum+wt D l[i]) D)),some (fP l[i])],rfl,.inl ?_,_,rfl⟩;unfold uH;simp only[Pzz,bO,Nat.reduceAdd,Nat.reduceSub,q])
  (ρ:=[some (.lst (l.map fP)),some (fP (c7 0 D)),none]) ⟨_,rfl⟩
 rw[ZF,aa7] at e;rw[Jn hD] at e;unfold kN xT;unfold fP at e ⊢;simp only[Pzz,bO,Nat.reduceAdd,Nat.reduceSub,e]
section
variable {D:Int}{m:Fs}{ps:List Int}
def sD (m:Fs)(d:Nat):Int:=(m.map λp=>p.2 d).sum
def VB (nd:Nat)(D:Int)(m:Fs):U:=.lst ((ZU nd).map λd=>fP (c7 (sD m d) D))
def NW (p:Int×Int):List Int:=[p.1,p.2]
def cS (nd:Nat)(D:Int)(m:Fs):Nat:=(aP ((ZU nd).map λd=>NW (c7 (sD m d) D))).length
theorem Qn (hm:pq n nd D m)(d:Nat):(∀g∈(m.map λp=>c7 (p.2 d) D),Cj D g)/\((m.map λp=>c7 (p.2 d) D).map (wt D)).sum=sD m d:=by
 refine⟨λg hg=>?_,?_⟩
 ·obtain⟨p,hp,rfl⟩:=ZO.mp hg;exact Qa ((hm.el p hp).2 d) hm.d0
 ·unfold sD;rw[ZY];congr 1;exact Z2 λp hp=>Ck ((hm.el p hp).2 d) hm.d0
theorem Th (hm:pq n nd D m):∃p:List Int×(Nat->Int),cC (cG nd D m) (.int 0)=.ok (pU nd D p)/\cC (pU nd D p) (.int 1)=.ok (wU nd D p.2)/\gf [wU nd D p.2]=.ok (.int (nd:Nat)):=by
 obtain⟨p,m',em⟩:∃p m',m=p::m':=by
  cases hq:m with
  |nil=>exact absurd hq hm.ne
  |cons p m'=>exact⟨p,m',rfl⟩
 refine⟨p,?_,?_,?_⟩
 ·rw[em];unfold cG;rw[jd,show (0:Int)=((0:Nat):Int) from rfl,ft];rfl
 ·unfold pU;rw[jd,show (1:Int)=((1:Nat):Int) from rfl,ft];rfl
 ·unfold wU;rw[lM,ZF,aaa]
theorem Qo (hm:pq n nd D m){d:Nat}(hd:d<nd)(Wm:∀p:List Int×(Nat->Int),bz 2 (ay (ba 0) (ay (ba 1) bx)) (pU nd D p) (j3 js ρ)=.ok [some (ah p.1),some (wU nd D p.2),some (.int (d:Nat))]) :
  AX (oE js (bz 2 (ay (ba 0) (ay (ba 1) bx))) cu (aU cC (ag 1) (ag 2)) ρ) (m.map (pU nd D))=.ok (m.map λp=>fP (c7 (p.2 d) D)):=bI λp _=>by
 have iw:=S8 hd (D:=D) (w:=p.2);unfold oE;rw[Wm];simp only[Pzz,bO,Nat.reduceAdd,Nat.reduceSub,iw]
theorem LS (hm:pq n nd D m):i5 [cG nd D m]=.ok (VB nd D m):=by
 have sz:ZL=16777216:=rfl;have n2:=hm.n2;have ln:=hm.ln;have d1:=hm.d1;have dn:=NT hm;rw[jo] at dn;have sb:∀ρ,jB (cG nd D m) ρ=.ok (m.map (pU nd D),ρ):=λρ=>rfl;have el:=bI (f:=oE [none,some 0] (ba 0) cu (fy 1 kN (af (gE (c_ (ag 1)) [none,none,some 0] (bz 2 (ay (ba 0) (ay (ba 1) bx))) cu (aU cC (ag 1) (ag 2))) au)) [some (cG nd D m)]) (c:=λd:Nat=>U.int (d:Nat)) (g:=λd=>fP (c7 (sD m d) D)) (xs:=ZU nd) λd hd=>by
  have ie:=Qo hm (Z6.mp hd) (js:=[none,none,some 0]) (ρ:=[some (.int (d:Nat)),some (cG nd D m)]) λp=>Ci;obtain⟨fo,fs⟩:=Qn hm d;have t:=Qm hm.d0 (by lia) fo;rw[fs,ZY] at t;have t':kN [.lst (m.map λp=>fP (c7 (p.2 d) D))]=.ok (fP (c7 (sD m d) D)):=t;have z:(m.map λp=>fP (c7 (p.2 d) D)).length<=ZL:=by rw[ZF];lia
  simp only[Pzz,bO,Nat.reduceAdd,Nat.reduceSub,sb,ie,z,t']
 have z2:((ZU nd).map λd=>fP (c7 (sD m d) D)).length<=ZL:=by rw[ZF,aaa];lia
 unfold i5 qb;simp only[Pzz,bO,Nat.reduceAdd,Nat.reduceSub,dn,el,z2];rfl
theorem LU (hm:pq n nd D m):jg [VB nd D m]=.ok (.int (cS nd D m:Nat))/\1<=cS nd D m:=by
 have n1:=hm.n1;have n2:=hm.n2;have e:((ZU nd).map λd=>fP (c7 (sD m d) D))=((ZU nd).map λd=>NW (c7 (sD m d) D)).map ah:=by rw[ZY];rfl
 have ol:=kq ((ZU nd).map λd=>NW (c7 (sD m d) D)) [];rw[ZF,aaa,abM] at ol;have Za:cS nd D m<=4:=by unfold cS aP;lia
 constructor
 ·unfold VB;rw[e];unfold jg;dsimp only;rw[ph λk hk=>by obtain⟨p,_,rfl⟩:=ZO.mp hk;exact List.cons_ne_nil _ _];dsimp only;rw[hZ (by unfold cS at Za;lia)];rfl
 ·have:NW (c7 (sD m 0) D)∈aP ((ZU nd).map λd=>NW (c7 (sD m d) D)):=(bQ _ _ _).mpr (.inr (ZO.mpr ⟨0,Z6.mpr n1,rfl⟩));unfold cS;exact adO this
theorem Ej (hm:pq n nd D m):∀x∈Lk m ps,pq n nd D x.2:=λx hx=>by
 obtain⟨k,hk,rfl⟩:=ZO.mp hx;have Q4:=(aM _).mem_iff.mp hk;have fl:=aea (oA ps k) m;have ln:=hm.ln;refine⟨λe=>?_,hm.nn.sublist (List.filter_sublist.map _),λp hp=>hm.el p (aa5.mp hp).1,by show (m.filter (oA ps k)).length<=60;lia,hm.d0,hm.d1,hm.n1,hm.n2⟩;rcases (bQ _ _ _).mp Q4 with z|z
 ·cases z
 ·obtain⟨p,hp,e2⟩:=ZO.mp z;have:p∈m.filter (oA ps k):=aa5.mpr ⟨hp,hG e2⟩;have e':m.filter (oA ps k)=[]:=e;rw[e'] at this;cases this
def qS (nd:Nat)(D:Int)(x:List Int×Fs):Bool:=((cS nd D x.2:Nat):Int)==1
theorem Ti {α:Type}(f:α->Bool):∀l:List α,E3 [.lst (l.map λx=>U.bl (f x))]=.ok (.bl (l.all f)):=λl=>by
 have:=BI (l.map λx=>U.bl (f x)) (λu=>match u with|.bl b=>b|_=>false);rw[ZY,List.all_map] at this;exact this
theorem Jy (hm:pq n nd D m)(hp:Q1 n ps):b_ [cG nd D m,ah ps]=.ok (.bl ((Lk m ps).all (qS nd D))):=by
 have sz:ZL=16777216:=rfl;have lo:=yv hm hp;have kl:=Co (ps:=ps) hm;have el:=bI (f:=oE [none,none] (bz 2 (ay (ba 0) (ay (ba 1) bx))) cu (aU (jC id) (iD jg (af (fy 1 i5 (af (ag 1) au)) au)) (gC (.int 1))) [some (cG nd D m),some (ah ps)]) (c:=LP nd D) (g:=λx=>U.bl (qS nd D x)) (xs:=Lk m ps) λx hx=>by
  have TU:=Ej hm x hx;have s:=LS TU;have l:=(LU TU).1;unfold LP;simp only[Pzz,bO,Nat.reduceAdd,Nat.reduceSub,Ci,s,l,id_eq];rfl
 have z:((Lk m ps).map λx=>U.bl (qS nd D x)).length<=ZL:=by unfold Lk;rw[ZF,ZF,(aM _).length_eq];lia
 have sb:∀ρ,jB (vT nd D (Lk m ps)) ρ=.ok ((Lk m ps).map (LP nd D),ρ):=λρ=>rfl;unfold b_ iH;simp only[Pzz,bO,Nat.reduceAdd,Nat.reduceSub,lo,sb,el,z,Ti]
end
def sw (m:Fs)(φ:List Int->Bool)(d:Nat):Int:=(m.map λp=>if φ p.1=true then p.2 d else 0).sum
abbrev Tb:=Nat->List (List Int)
def cn (T:Tb)(o:List Int)(φ:List Int->Bool)(d:Nat):Nat:=((T d).filter λt=>φ (aQ t o)).length
structure eB (o:List Int)(m:Fs)(T:Tb):Prop where
 s:∀φ d,d<4->sw m φ d=(cn T o φ d:Int)
 p:∀x∈m,∃d,d<4/\0<x.2 d
theorem Ek (ψ φ:List Int->Bool)(d:Nat):∀m:Fs,sw (m.filter λp=>ψ p.1) φ d=sw m (λr=>φ r&&ψ r) d
 | []=>rfl
 |p::m=>by
  have ih:=Ek ψ φ d m;unfold sw at ih ⊢;rw[adg,ZI,aaf,←ih];show _=(if (φ p.1&&ψ p.1)=true then p.2 d else 0)+_;cases c:ψ p.1 with
  |true=>rw[hZ rfl,ZI,aaf,Bool.and_true]
  |false=>rw[hV ZM,ac5,hV ZM,aeM]
theorem eB.filt {m:Fs}{T:Tb}(h:eB o m T)(ψ:List Int->Bool):eB o (m.filter λp=>ψ p.1) (λd=>(T d).filter λt=>ψ (aQ t o)):=
 ⟨fun φ d hd=>by rw[Ek,h.s _ d hd];unfold cn;rw[List.filter_filter],λx hx=>h.p x (aa5.mp hx).1⟩
theorem El {k:List Int}{c:Int}:∀{ks:List (List Int)},ks.Nodup->k∈ks->(ks.map λx=>if k=x then c else 0).sum=c
 |x::ks,hn,hk=>by
  rw[ZI,aaf];have Mp:=aax.mp hn;by_cases e:k=x
  ·subst e;rw[hZ rfl,Jo λy hy=>hV λz=>Mp.1 (by rw[z];exact hy)];lia
  ·rw[hV e,El Mp.2 ((ZX.mp hk).resolve_left e)];lia
theorem Qp (F:Fs)(φ:List Int->Bool)(d:Nat):sw (iX F) φ d=sw F φ d:=by
 unfold sw iX;rw[ZY,Jc ((aM (gI F)).map _)];have e1:((gI F).map ((λp:List Int×(Nat->Int)=>if φ p.1=true then p.2 d else 0)∘λk=>(k,rZ F k)))=(gI F).map λk=>(F.map λx=>if x.1=k then (if φ x.1=true then x.2 d else 0) else 0).sum:=by
  apply Z2;intro k _;show (if φ k=true then rZ F k d else 0)=_;unfold rZ;split
  ·rename_i c;congr 1;apply Z2;intro x _;by_cases e:x.1=k
   ·rw[hZ e,hZ e,e,hZ c]
   ·rw[hV e,hV e]
  ·rename_i c
   symm
   refine Jo λx _=>?_;by_cases e:x.1=k
   ·rw[hZ e,e,hV c]
   ·rw[hV e]
 rw[e1,pA λk (x:List Int×(Nat->Int))=>if x.1=k then (if φ x.1=true then x.2 d else 0) else 0];congr 1;apply Z2;intro x hx;exact El (jO F) (fh.mpr (ZO.mpr ⟨x,hx,rfl⟩))
theorem nV {α:Type}{f:α->Int}:∀{l:List α},(∀x∈l,0<=f x)->∀x∈l,f x<=(l.map f).sum
 |y::l,h,x,hx=>by
  rw[ZI,aaf];have a:=h y ZG;have b:=yp λz hz=>h z (ZK _ hz);rcases ZX.mp hx with rfl|hx
  ·lia
  ·have:=nV (λz hz=>h z (ZK _ hz)) x hx;lia
theorem eB.res {F:Fs}{T:Tb}(nn:∀x∈F,∀d,0<=x.2 d)(h:eB o F T):eB o (iX F) T:=by
 refine⟨fun φ d hd=>by rw[Qp,h.s φ d hd],λx hx=>?_⟩;obtain⟨k,hk,rfl⟩:=ZO.mp hx;obtain⟨y,hy,rfl⟩:=ZO.mp (fh.mp ((aM _).mem_iff.mp hk));obtain⟨d,hd,hp⟩:=h.p y hy;refine⟨d,hd,Int.lt_of_lt_of_le hp ?_⟩;have:=nV (f:=λx:List Int×(Nat->Int)=>if x.1=y.1 then x.2 d else 0) (l:=F) (λz hz=>by
  split
  ·exact nn z hz d
  ·exact ad0 _) y hy
 rw[hZ rfl] at this;exact this
theorem eB.beg (hl:rows.length=4){T:Tb}(ht:∀d,d<4->∃t,T d=[t]/\rows.getD d []=aQ t o):eB o (F0 rows) T:=by
 refine⟨fun φ d hd=>?_,λx hx=>?_⟩
 ·obtain⟨t,e,e2⟩:=ht d hd;have so:=yt (λk=>if φ (rows.getD k [])=true then 1 else 0) d rows.length;rw[hZ (by lia),e2] at so;unfold cn sw F0;rw[e,ZY];have:((ZU rows.length).map ((λp:List Int×(Nat->Int)=>if φ p.1=true then p.2 d else 0)∘λk=>(rows.getD k [],un k)))=(ZU rows.length).map λi=>if d=i then (if φ (rows.getD i [])=true then 1 else 0) else 0:=by
   apply Z2;intro k _;show (if φ (rows.getD k [])=true then un k d else 0)=_;unfold un;by_cases c:φ (rows.getD k [])=true
   ·rw[hZ c,hZ c]
   ·rw[hV c,hV c];split<;>rfl
  rw[this,so,adg];split<;>rfl
 ·unfold F0 at hx;obtain⟨k,hk,rfl⟩:=ZO.mp hx;have:=Z6.mp hk;exact⟨k,by lia,by show 0<un k k;unfold un;rw[hZ rfl];decide⟩
theorem LV (m:Fs)(ss:List (List Int))(φ:List Int->Bool)(d:Nat):sw (dw m ss) φ d=(ss.map λs=>sw m (λr=>φ (aQ r s)) d).sum:=by
 unfold sw dw;rw[pd,←pA λ(p:List Int×(Nat->Int)) s=>if φ (aQ p.1 s)=true then p.2 d else 0];congr 1;apply Z2;intro p _;rw[ZY];rfl
theorem AG {α β:Type}(f:α->List β)(q:β->Bool):∀l:List α,(((l.flatMap f).filter q).length:Int)=(l.map λa=>(((f a).filter q).length:Int)).sum
 | []=>rfl
 |a::l=>by rw[abG,List.filter_append,Z3,ZI,aaf,←AG f q l];rfl
theorem AH {α β:Type}(f:α->β)(q:β->Bool):∀l:List α,((l.map f).filter q).length=(l.filter λa=>q (f a)).length
 | []=>rfl
 |a::l=>by
  rw[ZI,adg,adg];have:=AH f q l;split
  ·rw[Z0,Z0,this]
  ·exact this
theorem eB.flat {m:Fs}{T:Tb}(h:eB o m T){lf:List Int->List Int}(hl:∀s∈ss,∀d,d<4->∀t∈T d,aQ (aQ t o) (lf s)=aQ (aQ t s) o)(ne:ss≠[]):eB o (dw m (ss.map lf)) (λd=>ss.flatMap λs=>(T d).map λt=>aQ t s):=by
 refine⟨fun φ d hd=>?_,λx hx=>?_⟩
 ·rw[LV,ZY];unfold cn;rw[AG];congr 1;apply Z2;intro s hs;show sw m (λr=>φ (aQ r (lf s))) d=_;rw[h.s _ d hd,AH];unfold cn;congr 2;apply List.filter_congr;intro t ht;show φ (aQ (aQ t o) (lf s))=_;rw[hl s hs d hd t ht]
 ·unfold dw at hx;obtain⟨p,hp,hx⟩:=aa8.mp hx;obtain⟨s,_,rfl⟩:=ZO.mp hx;exact h.p p hp
theorem eB.pos {m:Fs}{T:Tb}(h:eB o m T)(nn:∀x∈m,∀d,0<=x.2 d){x:List Int×(Nat->Int)}(hx:x∈m){d:Nat}(hd:d<4)(hp:0<x.2 d):∃t∈T d,aQ t o=x.1:=by
 have e:=h.s (λr=>decide (r=x.1)) d hd;have l:=nV (f:=λp:List Int×(Nat->Int)=>if decide (p.1=x.1)=true then p.2 d else 0) (l:=m) (λz hz=>by
  split
  ·exact nn z hz d
  ·exact ad0 _) x hx
 rw[hZ (hG rfl)] at l;unfold sw at e;rw[e] at l;have:0<cn T o (λr=>decide (r=x.1)) d:=by lia
 obtain⟨t,ht⟩:=List.exists_mem_of_length_pos (show 0<((T d).filter λt=>decide (aQ t o=x.1)).length from this);exact⟨t,(aa5.mp ht).1,of_decide_eq_true (aa5.mp ht).2⟩
theorem AI {α:Type}{f:α->Int}:∀{l:List α},0<(l.map f).sum->∃x∈l,0<f x
 | [],h=>by simp at h
 |y::l,h=>by
  rw[ZI,aaf] at h;by_cases c:0<f y
  ·exact⟨y,ZG,c⟩
  ·obtain⟨x,hx,hp⟩:=AI (l:=l) (f:=f) (by lia);exact⟨x,ZK _ hx,hp⟩
theorem eB.mem {m:Fs}{T:Tb}(h:eB o m T){d:Nat}(hd:d<4){t:List Int}(ht:t∈T d):∃x∈m,x.1=aQ t o/\0<x.2 d:=by
 have e:=h.s (λr=>decide (r=aQ t o)) d hd;have:0<cn T o (λr=>decide (r=aQ t o)) d:=adO (aa5.mpr ⟨ht,hG rfl⟩);unfold sw at e;obtain⟨x,hx,hp⟩:=AI (l:=m) (f:=λp:List Int×(Nat->Int)=>if decide (p.1=aQ t o)=true then p.2 d else 0) (by rw[e];lia);split at hp
 ·rename_i c;exact⟨x,hx,of_decide_eq_true c,hp⟩
 ·lia
variable {T:Hc.Tb}
theorem u_ {sg:U->Ev->R Ev}{s:Ev->SR}(I:Nat->Ev->Prop)(P:U->Prop):∀{us:List U} {b:Nat} {ρ:Ev},(∀i u ρ,us[i]? = some u->I (b+i) ρ->∃ρ1,sg u ρ=.ok ρ1/\((∃ρ2,s ρ1=.nx ρ2/\I (b+i+1) ρ2)\/∃v ρ2,P v/\s ρ1=.rt v ρ2))->I b ρ ->
  (∃ρ',bY sg s us ρ=.nx ρ'/\I (b+us.length) ρ')\/∃v ρ',P v/\bY sg s us ρ=.rt v ρ'
 | [],b,ρ,_,h=>.inl ⟨ρ,g_,h⟩
 |u::us,b,ρ,st,h=>by
  obtain⟨ρ1,e1,z⟩:=st 0 u ρ rfl h;rw[cI,e1];rcases z with⟨ρ2,e2,h2⟩|⟨v,ρ2,hP,e2⟩
  ·have ih:=u_ I P (us:=us) (b:=b+1) (ρ:=ρ2) (λi u ρ hu hi=>by
    have:=st (i+1) u ρ hu (by rw[show b+(i+1)=b+1+i by lia];exact hi);rw[show b+(i+1)=b+1+i by lia] at this;exact this) h2
   rw[Z0,show b+(us.length+1)=b+1+us.length by lia];show (∃ρ',(s ρ1).turn (bY sg s us)=.nx ρ'/\_)\/∃v ρ',P v/\(s ρ1).turn (bY sg s us)=.rt v ρ';rw[e2];exact ih
  ·refine .inr ⟨v,ρ2,hP,?_⟩;show (s ρ1).turn _=_;rw[e2];rfl
theorem AJ {s:Ev->SR}(I:Nat->Ev->Prop)(E:Prop)(v:U){b:Nat}(st:∀i u ρ,us[i]? = some u->I (b+i) ρ->∃ρ1,sg u ρ=.ok ρ1/\((∃ρ2,s ρ1=.nx ρ2/\I (b+i+1) ρ2)\/(E/\∃ρ2,s ρ1=.rt v ρ2)))(h:I b ρ) :
  (∃ρ',bY sg s us ρ=.nx ρ'/\I (b+us.length) ρ')\/(E/\∃ρ',bY sg s us ρ=.rt v ρ'):=by
 rcases u_ I (λu=>u=v/\E) (λi u ρ hu hi=>by
  obtain⟨ρ1,e1,z⟩:=st i u ρ hu hi;exact⟨ρ1,e1,z.imp id fun⟨hE,ρ2,e⟩=>⟨v,ρ2,⟨rfl,hE⟩,e⟩⟩) h with z|⟨u,ρ',⟨rfl,hE⟩,e⟩
 ·exact .inl z
 ·exact .inr ⟨hE,ρ',e⟩
def gY:Option Int->U
 |none=>.non
 |some i=>.int i
theorem Qq {f:Bool->Bool}{ds:List D}(hx:kH u=some dx)(hs:ja us=some ds)(hd:∀d∈ds,eY d<=30):AZ f u (.tup us)=.ok (.bl (f (ds.any λd=>jA d dx))):=by
 unfold AZ;rw[hx,show (B0 (.tup us)).bind ja=some ds from hs];dsimp only;rw[hZ (aag.mpr λd h=>hG (hd d h))]
theorem Jz (t:Option Int)(c:Int):AZ not (gY t) (.tup [.non,.int c])=.ok (.bl (decide (t≠none/\t≠some c))):=by
 have hd:∀d∈([.non,.int c]:List D),eY d<=30:=λd h=>by
  simp only[ZX,acx,or_false] at h;rcases h with rfl|rfl<;>(unfold eY;lia)
 cases t with
 |none=>
  rw[Qq (u:=gY none) (dx:=.non) (ds:=[.non,.int c]) (by simp[kH,gY]) (by simp[ja,kH]) hd];simp[jA]
 |some i=>
  rw[Qq (u:=gY (some i)) (dx:=.int i) (ds:=[.non,.int c]) (by simp[kH,gY]) (by simp[ja,kH]) hd];simp[jA,eq_comm];exact aaw.mpr (by simp)
theorem Em {a D:Int}(ha:0<=a)(hD:0<D):((c7 a D).1>0)=(0<a):=by
 obtain⟨r1,r2,r3,_,_⟩:=qr ha hD;apply propext;constructor
 ·intro h;have:0<(c7 a D).1*D:=aex h hD;rw[r3] at this;exact Int.pos_of_mul_pos_left this r2
 ·intro h;have:0<a*(c7 a D).2:=aex h r2;rw[←r3] at this;exact Int.pos_of_mul_pos_left this hD
def yw (p:Nat)(x:List Int×(Nat->Int)):Int:=x.1.getD p 0
theorem JA {row:List Int}(h:p<row.length):cC (ah row) (.int (p:Nat))=.ok (.int (row.getD p 0)):=by
 unfold ah;rw[jd,ft,ZT,ZH h,ZV,ZH h];rfl
section
variable {D:Int}{m:Fs}
theorem Qr {x:List Int×(Nat->Int)}(hx:∀d,0<=x.2 d)(hD:0<D)(hp:p<x.1.length){tl:List (Option Int)}{d:Nat}(hd:d<tl.length) :
  dk [x0,some (.int (p:Nat)),some (.lst (tl.map gY)),some (ah x.1),x4,some (.int (d:Nat)),some (fP (c7 (x.2 d) D))] =
   if 0<x.2 d then (if tl.getD d none≠none/\tl.getD d none≠some (yw p x) then .rt .non [x0,some (.int (p:Nat)),some (.lst (tl.map gY)),some (ah x.1),x4,some (.int (d:Nat)),some (fP (c7 (x.2 d) D))] else .nx [x0,some (.int (p:Nat)),some (.lst ((tl.set d (some (yw p x))).map gY)),some (ah x.1),x4,some (.int (d:Nat)),some (fP (c7 (x.2 d) D))])
   else .nx [x0,some (.int (p:Nat)),some (.lst (tl.map gY)),some (ah x.1),x4,some (.int (d:Nat)),some (fP (c7 (x.2 d) D))]:=by
 have e1:cC (fP (c7 (x.2 d) D)) (.int 0)=.ok (.int (c7 (x.2 d) D).1):=by unfold fP;rw[jd,show (0:Int)=((0:Nat):Int) from rfl,ft];rfl
 have e2:cC (.lst (tl.map gY)) (.int (d:Nat))=.ok (gY (tl.getD d none)):=by
  rw[wC,ft,ZT,ZH hd,ZV,ZH hd];rfl
 have e3:=JA hp;have e4:Bf (tl.map gY).length (d:Nat)=some d:=by rw[ZF];unfold Bf;rw[hZ (by lia),hZ (by lia)];rfl
 have l2:(2:Nat)<=ZL:=by decide
 have cr:x.1.getD p 0=yw p x:=rfl;unfold dk;by_cases c:0<x.2 d
 ·rw[hZ c];have c1:decide ((c7 (x.2 d) D).1>0)=true:=hG (by rw[Em (hx d) hD];exact c);by_cases c2:tl.getD d none≠none/\tl.getD d none≠some (yw p x)
  ·rw[hZ c2];simp only[Pzz,bO,Nat.reduceAdd,Nat.reduceSub,e1,e2,e3,c1,Jz,cr,hG c2,l2]
  ·rw[hV c2];simp only[Pzz,bO,Nat.reduceAdd,Nat.reduceSub,e1,e2,e3,c1,Jz,cr,hJ c2,l2,Ng e4,List.map_set];rfl
 ·rw[hV c];have c1:decide ((c7 (x.2 d) D).1>0)=false:=hJ (by rw[Em (hx d) hD];exact c);simp only[Pzz,bO,Nat.reduceAdd,Nat.reduceSub,e1,c1]
theorem Qs {x:List Int×(Nat->Int)}(hx:∀d,0<=x.2 d)(hD:0<D)(hp:p<x.1.length){tl:List (Option Int)}(hl:tl.length=4) :
  (∃(tl':List (Option Int)) (a5 a6:Option U),cA [x0,some (.int (p:Nat)),some (.lst (tl.map gY)),some (ah x.1),some (wU 4 D x.2),o5,o6]=.nx [x0,some (.int (p:Nat)),some (.lst (tl'.map gY)),some (ah x.1),some (wU 4 D x.2),a5,a6]/\tl'.length=4/\∀d,d<4->if 0<x.2 d then (tl.getD d none=none\/tl.getD d none=some (yw p x))/\tl'.getD d none=some (yw p x) else tl'.getD d none=tl.getD d none) \/
  ((∃d,d<4/\0<x.2 d/\tl.getD d none≠none/\tl.getD d none≠some (yw p x))/\∃ρ',cA [x0,some (.int (p:Nat)),some (.lst (tl.map gY)),some (ah x.1),some (wU 4 D x.2),o5,o6]=.rt .non ρ'):=by
 have el:zI 0 ((ZU 4).map λd=>fP (c7 (x.2 d) D))=(ZU 4).map λd=>U.tup [.int (d:Nat),fP (c7 (x.2 d) D)]:=rfl;have run:cA [x0,some (.int (p:Nat)),some (.lst (tl.map gY)),some (ah x.1),some (wU 4 D x.2),o5,o6]=bY (bz 2 (ay (ba 5) (ay (ba 6) bx))) dk ((ZU 4).map λd=>U.tup [.int (d:Nat),fP (c7 (x.2 d) D)]) [x0,some (.int (p:Nat)),some (.lst (tl.map gY)),some (ah x.1),some (wU 4 D x.2),o5,o6]:=by
  unfold cA;rw[HF,←el];rfl
 rw[run];rcases AJ (b:=0) (us:=(ZU 4).map λd=>U.tup [.int (d:Nat),fP (c7 (x.2 d) D)]) (sg:=bz 2 (ay (ba 5) (ay (ba 6) bx))) (s:=dk)
  (λj ρ=>∃(tl':List (Option Int)) (a5 a6:Option U),ρ=[x0,some (.int (p:Nat)),some (.lst (tl'.map gY)),some (ah x.1),some (wU 4 D x.2),a5,a6]/\tl'.length=4/\∀d,d<4->if d<j/\0<x.2 d then (tl.getD d none=none\/tl.getD d none=some (yw p x))/\tl'.getD d none=some (yw p x) else tl'.getD d none=tl.getD d none)
  (∃d,d<4/\0<x.2 d/\tl.getD d none≠none/\tl.getD d none≠some (yw p x)) .non (ρ:=[x0,some (.int (p:Nat)),some (.lst (tl.map gY)),some (ah x.1),some (wU 4 D x.2),o5,o6]) (λi u ρ hu h00=>by
   obtain⟨tl',a5,a6,hr,l4,inv⟩:=h00;subst hr;rw[abd] at inv ⊢;have hi:i<4:=by have:=(ZQ.mp hu).1;rwa [ZF,aaa] at this
   have Mt:u=.tup [.int (i:Nat),fP (c7 (x.2 i) D)]:=by
    rw[ZT,aaT hi] at hu;injection hu with hu;exact hu.symm
   subst Mt;refine⟨_,Ci,?_⟩;have t:=Qr hx hD hp (tl:=tl') (d:=i) (by lia) (x0:=x0) (x4:=some (wU 4 D x.2));have ii:=inv i hi;rw[hV (by lia)] at ii;show (∃ρ2,dk [x0,some (.int (p:Nat)),some (.lst (tl'.map gY)),some (ah x.1),some (wU 4 D x.2),some (.int (i:Nat)),some (fP (c7 (x.2 i) D))]=.nx ρ2/\_)\/(_/\∃ρ2,dk [x0,some (.int (p:Nat)),some (.lst (tl'.map gY)),some (ah x.1),some (wU 4 D x.2),some (.int (i:Nat)),some (fP (c7 (x.2 i) D))]=.rt .non ρ2);rw[t];by_cases c:0<x.2 i
   ·rw[hZ c];by_cases c2:tl'.getD i none≠none/\tl'.getD i none≠some (yw p x)
    ·rw[hZ c2];rw[ii] at c2;exact .inr ⟨⟨i,hi,c,c2⟩,_,rfl⟩
    ·rw[hV c2];refine .inl ⟨_,rfl,tl'.set i (some (yw p x)),_,_,rfl,by rw[aaJ];exact l4,λd hd=>?_⟩;rw[ii] at c2;by_cases cd:d=i
     ·subst cd;rw[hZ ⟨by lia,c⟩];refine⟨?_,?_⟩
      ·by_cases z:tl.getD d none=none
       ·exact .inl z
       ·exact .inr (Classical.not_not.mp λy=>c2 ⟨z,y⟩)
      ·rw[ZV,aa2 (by lia)];rfl
     ·have id:=inv d hd;rw[ZV (l:=tl'.set i _),aal (λz=>cd z.symm),←ZV];by_cases cz:d<i/\0<x.2 d
      ·rw[hZ cz] at id;rw[hZ ⟨by lia,cz.2⟩];exact id
      ·rw[hV cz] at id;rw[hV λz=>cz ⟨by lia,z.2⟩];exact id
   ·rw[hV c];refine .inl ⟨_,rfl,tl',_,_,rfl,l4,λd hd=>?_⟩;have id:=inv d hd;by_cases cz:d<i/\0<x.2 d
    ·rw[hZ cz] at id;rw[hZ ⟨by lia,cz.2⟩];exact id
    ·rw[hV cz] at id;rw[hV λz=>cz ⟨by
      have:d≠i:=λy=>by subst y;exact c z.2
      lia,z.2⟩];exact id) ⟨tl,o5,o6,rfl,hl,λd hd=>by rw[hV (by lia)]⟩ with⟨ρ',e,tl',a5,a6,rfl,l4,inv⟩|⟨hE,ρ',e⟩
 ·refine .inl ⟨tl',a5,a6,e,l4,λd hd=>?_⟩;have id:=inv d hd;by_cases cz:0<x.2 d
  ·rw[hZ ⟨by rw[ZF,aaa];lia,cz⟩] at id;rw[hZ cz];exact id
  ·rw[hV λz=>cz z.2] at id;rw[hV cz];exact id
 ·exact .inr ⟨hE,ρ',e⟩
def En:List (Option Int):=[none,none,none,none]
theorem n4 {d:Nat}(hd:d<4):En.getD d none=none:=by
 have:d=0\/d=1\/d=2\/d=3:=by lia
 rcases this with rfl|rfl|rfl|rfl<;>rfl
theorem LW (hm:pq n 4 D m)(hp:p<n)(JW:∀d,d<4->∃x∈m,0<x.2 d) :
  (∃gs:List Int,gs.length=4/\cv [cG 4 D m,.int (p:Nat)]=.ok (ah gs)/\∀x∈m,∀d,d<4->0<x.2 d->yw p x=gs.getD d 0)\/(cv [cG 4 D m,.int (p:Nat)]=.ok .non/\∀g:Nat->Int,¬∀x∈m,∀d,d<4->0<x.2 d->yw p x=g d):=by
 obtain⟨q,h1,h2,h3⟩:=Th hm;have ml:DX (.lst [.non]) (.int (4:Nat))=.ok (.lst (En.map gY)):=by kernel_rfl
 have l1:(1:Nat)<=ZL:=by decide
 have XD:(4:Nat)<=ZL:=by decide
 have sb:∀ρ,jB (cG 4 D m) ρ=.ok (m.map (pU 4 D),ρ):=λρ=>rfl;rcases AJ (b:=0) (us:=m.map (pU 4 D)) (sg:=bz 2 (ay (ba 3) (ay (ba 4) bx))) (s:=cA)
  (λi ρ=>∃(tl:List (Option Int)) (a3 a4 a5 a6:Option U),ρ=[some (cG 4 D m),some (.int (p:Nat)),some (.lst (tl.map gY)),a3,a4,a5,a6]/\tl.length=4/\(∀x∈m.take i,∀d,d<4->0<x.2 d->tl.getD d none=some (yw p x))/\∀d,d<4->tl.getD d none≠none->∃x∈m,0<x.2 d/\tl.getD d none=some (yw p x))
  (∀g:Nat->Int,¬∀x∈m,∀d,d<4->0<x.2 d->yw p x=g d) .non (ρ:=[some (cG 4 D m),some (.int (p:Nat)),some (.lst (En.map gY)),none,none,none,none]) (λi u ρ hu h00=>by
   obtain⟨tl,a3,a4,a5,a6,hr,l4,inv,Mr⟩:=h00;subst hr;rw[abd] at inv ⊢;have hi:i<m.length:=by have:=(ZQ.mp hu).1;rwa [ZF] at this
   have Mt:u=pU 4 D m[i]:=by
    rw[ZT,ZH hi] at hu;injection hu with hu;exact hu.symm
   subst Mt;have hx:=hm.el _ (aau hi);refine⟨_,Ci,?_⟩;show (∃ρ2,cA [some (cG 4 D m),some (.int (p:Nat)),some (.lst (tl.map gY)),some (ah m[i].1),some (wU 4 D m[i].2),a5,a6]=.nx ρ2/\_)\/(_/\∃ρ2,cA [some (cG 4 D m),some (.int (p:Nat)),some (.lst (tl.map gY)),some (ah m[i].1),some (wU 4 D m[i].2),a5,a6]=.rt .non ρ2);rcases Qs (x:=m[i]) hx.2 hm.d0 (p:=p) (by rw[hx.1];exact hp) l4 (x0:=some (cG 4 D m)) (o5:=a5) (o6:=a6) with⟨tl',b5,b6,e,XD,st⟩|⟨⟨d,hd,c1,c2,c3⟩,ρ',e⟩
   ·refine .inl ⟨_,e,tl',_,_,_,_,rfl,XD,λx XF d hd yO=>?_,λd hd ne=>?_⟩
    ·have sd:=st d hd;rw[aai hi] at XF;rcases aam.mp XF with z|z
     ·have i0:=inv x z d hd yO;by_cases c:0<m[i].2 d
      ·rw[hZ c] at sd;rcases sd.1 with y|y
       ·rw[y] at i0;cases i0
       ·rw[sd.2,←y];exact i0
      ·rw[hV c] at sd;rw[sd];exact i0
     ·rw[Z1] at z;subst z;rw[hZ yO] at sd;exact sd.2
    ·have sd:=st d hd;by_cases c:0<m[i].2 d
     ·rw[hZ c] at sd;exact⟨_,aau hi,c,sd.2⟩
     ·rw[hV c] at sd;rw[sd] at ne ⊢;exact Mr d hd ne
   ·refine .inr ⟨λg hg=>?_,ρ',e⟩;obtain⟨y,hy,y1,y2⟩:=Mr d hd c2;rw[y2] at c3;exact c3 (by rw[hg y hy d hd y1,hg _ (aau hi) d hd c1])) ⟨En,none,none,none,none,rfl,rfl,(λx hx=>by cases hx),λd hd ne=>absurd (n4 hd) ne⟩ with⟨ρ',e,tl,a3,a4,a5,a6,rfl,l4,inv,Mr⟩|⟨hE,ρ',e⟩
 ·left;rw[abd,ZF,aa7] at inv;have ne:∀d,d<4->tl.getD d none≠none:=λd hd z=>by
   obtain⟨x,hx,hp⟩:=JW d hd;have:=inv x hx d hd hp;rw[z] at this;cases this
  have et:tl.map gY=((tl.map λt=>t.getD 0).map U.int):=by
   rw[ZY];apply Z2;intro t ht;obtain⟨d,hd,rfl⟩:=ac2.mp ht;have:=ne d (by lia);rw[ZV,ZH hd] at this;cases z:tl[d] with
   |none=>rw[z] at this;exact absurd rfl this
   |some i=>rfl
  refine⟨tl.map λt=>t.getD 0,by rw[ZF];exact l4,?_,λx hx d hd yO=>?_⟩
  ·unfold cv iU;simp only[Pzz,bO,Nat.reduceAdd,Nat.reduceSub,h1,h2,h3,ml,l1,sb,e,et];rfl
  ·have:=inv x hx d hd yO;rw[ZV] at this;rw[ZV,ZT];cases z:tl[d]? with
   |none=>rw[z] at this;cases this
   |some t=>rw[z] at this;cases this;rfl
 ·right;refine⟨?_,hE⟩;unfold cv iU;simp only[Pzz,bO,Nat.reduceAdd,Nat.reduceSub,h1,h2,h3,ml,l1,sb,e]
end
def yx (T:Tb)(c:Nat)(g:List Int):Bool:=(ZU 4).all λd=>(T d).all λt=>t.getD c 0==g.getD d 0
def pl (o:List Int)(p:Nat):Nat:=(o.getD p 0).toNat
theorem sQ {c:Nat}{g:List Int}:yx T c g=true↔∀d,d<4->∀t∈T d,t.getD c 0=g.getD d 0:=by
 unfold yx;rw[aag];constructor
 ·intro h d hd t ht;exact eq_of_beq (aag.mp (h d (Z6.mpr hd)) t ht)
 ·intro h d hd;exact aag.mpr λt ht=>by rw[h d (Z6.mp hd) t ht];exact beq_self_eq_true _
structure St (n:Nat)(o:List Int)(D:Int)(m:Fs)(T:Tb):Prop where
 k:pq n 4 D m
 po:br n o
 n8:n<=8
 r:eB o m T
 a:∀d,d<4->T d≠[]
theorem yy {t:List Int}(h:p<o.length):(aQ t o).getD p 0=t.getD (pl o p) 0:=by
 unfold aQ pl;rw[ZV,ZT,ZH h,ZV (l:=o),ZH h];rfl
section
variable {D:Int}{m:Fs}
theorem St.ln (S:St n o D m T):o.length=n:=fI S.po
theorem St.nn (S:St n o D m T):∀x∈m,∀d,0<=x.2 d:=λx hx=>(S.k.el x hx).2
theorem St.has (S:St n o D m T){d:Nat}(hd:d<4):∃t,t∈T d:=by
 cases e:T d with
 |nil=>exact absurd e (S.a d hd)
 |cons t ts=>exact⟨t,ZG⟩
theorem LX (S:St n o D m T)(hp:p<n):∃u,cv [cG 4 D m,.int (p:Nat)]=.ok u/\(u=.non\/∃gs,u=ah gs)/\∀g:List Int,g.length=4->(u=ah g↔yx T (pl o p) g=true):=by
 have lo:p<o.length:=by rw[S.ln];exact hp
 have cr:∀x∈m,∀t,x.1=aQ t o->yw p x=t.getD (pl o p) 0:=λx _ t e=>by unfold yw;rw[e,yy lo]
 have al:∀d,d<4->∃x∈m,0<x.2 d:=λd hd=>by
  obtain⟨t,ht⟩:=S.has hd;obtain⟨x,hx,_,h2⟩:=S.r.mem hd ht;exact⟨x,hx,h2⟩
 rcases LW S.k hp al with⟨gs,l4,e,h⟩|⟨e,h⟩
 ·have key:∀d,d<4->∀t∈T d,t.getD (pl o p) 0=gs.getD d 0:=λd hd t ht=>by
   obtain⟨x,hx,h1,h2⟩:=S.r.mem hd ht;rw[←cr x hx t h1];exact h x hx d hd h2
  refine⟨_,e,.inr ⟨gs,rfl⟩,λg hg=>?_⟩;rw[eP,sQ];constructor
  ·rintro rfl;exact key
  ·intro Ms;refine aef (by lia) λd h1 h2=>?_;obtain⟨t,ht⟩:=S.has (d:=d) (by lia);have a:=key d (by lia) t ht;have b:=Ms d (by lia) t ht;rw[a,ZV,ZV,ZH h1,ZH h2] at b;exact b
 ·refine⟨_,e,.inl rfl,λg hg=>?_⟩;constructor
  ·intro z;unfold ah at z;cases z
  ·intro z;rw[sQ] at z;refine absurd (λx hx d hd yO=>?_) (h λd=>g.getD d 0);obtain⟨t,ht,e2⟩:=S.r.pos S.nn hx hd yO;rw[cr x hx t e2.symm];exact z d hd t ht
theorem VC {α:Type}[Inhabited α]{P:Nat->α->Prop}(h:∀p,p<n->∃u,P p u):∃f:Nat->α,∀p,p<n->P p (f p):=
 ⟨λp=>if c:p<n then Classical.choose (h p c) else default,λp c=>by dsimp only;rw[dif_pos c];exact Classical.choose_spec (h p c)⟩
def bN (ds:List Int):U:=.lst (ds.map λd=>.tup [.int d,.int (1-d)])
def eA (k:Nat)(ds:List Int):List Int:=ds.map λd=>if k=0 then d else 1-d
def l9 (T:Tb)(o:List Int)(g:List Int)(ps:List Nat)(p:Nat):Bool:=yx T (pl o p) g && !(ps.contains p)
theorem LY {u:U}(h:u=.non\/∃gs,u=ah gs)(g:List Int)[Decidable (u=ah g)]:zo u (ah g)=.ok (decide (u=ah g)):=by
 rcases h with rfl|⟨gs,rfl⟩
 ·unfold zo;have:kH (ah g)=some (.tup (g.map .int)):=by unfold ah kH;rw[mD];rfl
  rw[this];unfold kH;dsimp only;rw[hZ (by unfold eY;lia)];unfold jA;rw[hJ (by intro z;unfold ah at z;cases z)]
 ·have e:zo (ah gs) (ah g)=.ok (decide (gs=g)):=Ih _ _;rw[e];congr 1;exact decide_eq_decide.mpr eP.symm
theorem Tj {f:Bool->Bool}{dx:L2.D}{ds:List L2.D}(hx:kH u=some dx)(hs:ja us=some ds)(hd:∀d∈ds,eY d<=30):AZ f u (.lst us)=.ok (.bl (f (ds.any λd=>jA d dx))):=by
 unfold AZ;rw[hx,show (B0 (.lst us)).bind ja=some ds from hs];dsimp only;rw[hZ (aag.mpr λd h=>hG (hd d h))]
theorem Tn (p:Nat)(ps:List Nat):AZ not (.int (p:Nat)) (.lst (ps.map λq:Nat=>U.int (q:Nat)))=.ok (.bl (!(ps.contains p))):=by
 have e1:ps.map (λq:Nat=>U.int (q:Nat))=(ps.map λq:Nat=>(q:Int)).map U.int:=by rw[ZY];rfl
 rw[e1,Tj (dx:=.int p) (ds:=(ps.map λq:Nat=>(q:Int)).map .int) (by unfold kH;rfl) (mD _) (λd h=>by
  obtain⟨i,_,rfl⟩:=ZO.mp h;unfold eY;lia)]
 congr 3;rw[List.any_map,List.any_map,aaw,ab7,List.contains_iff_mem];constructor
 ·rintro⟨q,hq,e⟩;have e:jA (.int (q:Int)) (.int (p:Int))=true:=e;unfold jA at e;have:(q:Int)=p:=by simpa using e
  have:q=p:=by lia
  rw[←this];exact hq
 ·intro h;exact⟨p,h,oq _⟩
theorem yz (S:St n o D m T){tU:Nat->U}(ht:∀p,p<n->(tU p=.non\/∃gs,tU p=ah gs)/\∀g:List Int,g.length=4->(tU p=ah g↔yx T (pl o p) g=true))(hd:ds.length=4)(hk:k<2){ps:List Nat}(ZD:ps.length<10) :
  ∃a6:Option U,dg [x0,some (bN ds),some (.lst ((ZU n).map tU)),some (.lst (ps.map λq:Nat=>U.int (q:Nat))),some (.int (k:Nat)),o5,o6]=match (ZU n).filter (l9 T o (eA k ds) ps) with
   | []=>.rt .non [x0,some (bN ds),some (.lst ((ZU n).map tU)),some (.lst (ps.map λq:Nat=>U.int (q:Nat))),some (.int (k:Nat)),some (ah (eA k ds)),a6]
   |q::_=>.nx [x0,some (bN ds),some (.lst ((ZU n).map tU)),some (.lst ((ps++[q]).map λq:Nat=>U.int (q:Nat))),some (.int (k:Nat)),some (ah (eA k ds)),a6]:=by
 have sz:ZL=16777216:=rfl;have n8:=S.n8;have sb:∀ρ,jB (bN ds) ρ=.ok (ds.map (λd=>U.tup [.int d,.int (1-d)]),ρ):=λρ=>rfl;have e1:=bI (f:=oE [none,some 4] (ba 0) cu (aU cC (ag 0) (ag 1)) [x0,some (bN ds),some (.lst ((ZU n).map tU)),some (.lst (ps.map λq:Nat=>U.int (q:Nat))),some (.int (k:Nat)),o5,o6]) (c:=λd:Int=>U.tup [.int d,.int (1-d)]) (g:=λd=>U.int (if k=0 then d else 1-d)) (xs:=ds) λd _=>by
  have:cC (.tup [.int d,.int (1-d)]) (.int (k:Nat))=.ok (.int (if k=0 then d else 1-d)):=by
   rw[jd,ft];have:k=0\/k=1:=by lia
   rcases this with rfl|rfl<;>rfl
  simp only[Pzz,bO,Nat.reduceAdd,Nat.reduceSub,this]
 have r1:(ds.map λd=>U.int (if k=0 then d else 1-d))=(eA k ds).map U.int:=by unfold eA;rw[ZY];rfl
 have z1:((eA k ds).map U.int).length<=ZL:=by unfold eA;rw[ZF,ZF];lia
 rw[r1] at e1;have lt:((ZU n).map tU).length=n:=by rw[ZF,aaa]
 have e2:=xf (f:=oE [none,some 5,some 3,some 2] (ba 0) (zg (gB (aU (RX id) (aU cC (ag 3) (ag 0)) (ag 1))) (gB (aU (AZ not) (ag 0) (ag 2)))) (ag 0) [x0,some (bN ds),some (.lst ((ZU n).map tU)),some (.lst (ps.map λq:Nat=>U.int (q:Nat))),some (.int (k:Nat)),some (ah (eA k ds)),o6]) (c:=λp:Nat=>U.int (p:Nat)) (p:=l9 T o (eA k ds) ps) (xs:=ZU n) λp hp=>by
  have hp:=Z6.mp hp;obtain⟨t1,t2⟩:=ht p hp;have t3:=t2 (eA k ds) (by unfold eA;rw[ZF];exact hd);have e3:cC (.lst ((ZU n).map tU)) (.int (p:Nat))=.ok (tU p):=by rw[wC,ft,ZT,aaT hp];rfl
  have dI:Decidable (tU p=ah (eA k ds)):=Classical.propDecidable _;have e4:=LY t1 (eA k ds);have e5:=Tn p ps;unfold l9;by_cases c:yx T (pl o p) (eA k ds)=true
  ·rw[hG (t3.mpr c)] at e4;rw[c,Bool.true_and];cases c2:ps.contains p with
   |true=>simp only[Pzz,bO,Nat.reduceAdd,Nat.reduceSub,e3,Ig,e4,e5,c2,id_eq,aaz]
   |false=>simp only[Pzz,bO,Nat.reduceAdd,Nat.reduceSub,e3,Ig,e4,e5,c2,id_eq,abu]
  ·rw[hJ λz=>c (t3.mp z)] at e4;rw[Bool.not_eq_true] at c;rw[c,Bool.false_and];simp only[Pzz,bO,Nat.reduceAdd,Nat.reduceSub,e3,Ig,e4,id_eq]
 have z2:(((ZU n).filter (l9 T o (eA k ds) ps)).map λp:Nat=>U.int (p:Nat)).length<=ZL:=by
  have:=aea (l9 T o (eA k ds) ps) (ZU n);rw[aaa] at this;rw[ZF];lia
 refine⟨some (.lst (((ZU n).filter (l9 T o (eA k ds) ps)).map λp:Nat=>U.int (p:Nat))),?_⟩;have rg:∀ρ,tZ [.int (n:Nat)] ρ=.ok (aY 0 n,ρ):=λρ=>jW n (by lia);unfold dg;have row:U.tup ((eA k ds).map U.int)=ah (eA k ds):=rfl;cases ef:(ZU n).filter (l9 T o (eA k ds) ps) with
 |nil=>
  rw[ef] at e2;simp only[Pzz,bO,Nat.reduceAdd,Nat.reduceSub,sb,e1,z1,row,pZ,lt,rg,jo,e2,aaI,abM,eG,id_eq];rfl
 |cons q r=>
  rw[ef] at e2 z2;have ne:(((r.length+1:Nat):Int)==0)=false:=by
   rw[beq_eq_false_iff_ne];lia
  have z3:ps.length<ZL:=by lia
  have e6:cC (.lst (((q::r).map λp:Nat=>U.int (p:Nat)))) (.int 0)=.ok (.int (q:Nat)):=by rw[wC,show (0:Int)=((0:Nat):Int) from rfl,ft];rfl
  have ap:(ps++[q]).map (λq:Nat=>U.int (q:Nat))=(ps.map λq:Nat=>U.int (q:Nat))++[U.int (q:Nat)]:=by rw[aad];rfl
  simp only[Pzz,bO,Nat.reduceAdd,Nat.reduceSub,sb,e1,z1,row,pZ,lt,rg,jo,e2,z2,ZF,Z0,ne,eG,id_eq,e6,Eh,z3,ap]
theorem JB (S:St n o D m T)(hd:ds.length=4):∃tU:Nat->U,(∀p,p<n->(tU p=.non\/∃gs,tU p=ah gs)/\∀g:List Int,g.length=4->(tU p=ah g↔yx T (pl o p) g=true))/\
  bV [cG 4 D m,bN ds]=pY .S ((bY (ba 4) dg (aY 0 2) [some (cG 4 D m),some (bN ds),some (.lst ((ZU n).map tU)),some (.lst (([]:List Nat).map λq:Nat=>U.int (q:Nat))),none,none,none]).seq (bc (aV (af (gC (.str "end")) (af (iD cW (af (ag 3) au)) au))))):=by
 have:Inhabited U:=⟨.non⟩;obtain⟨tU,ht⟩:=VC λp (hp:p<n)=>LX S hp;refine⟨tU,λp hp=>(ht p hp).2,?_⟩;have sz:ZL=16777216:=rfl;have n8:=S.n8;obtain⟨q,m',em⟩:∃q m',m=q::m':=by
  cases hq:m with
  |nil=>exact absurd hq S.k.ne
  |cons q m'=>exact⟨q,m',rfl⟩
 have h1:cC (cG 4 D m) (.int 0)=.ok (pU 4 D q):=by rw[em];unfold cG;rw[jd,show (0:Int)=((0:Nat):Int) from rfl,ft];rfl
 have h2:=WZ (nd:=4) (D:=D) q;have h3:gf [ah q.1]=.ok (.int (n:Nat)):=by unfold ah;rw[lM,ZF,(S.k.el q (by rw[em];exact ZG)).1]
 have rg:∀ρ,tZ [.int (n:Nat)] ρ=.ok (aY 0 n,ρ):=λρ=>jW n (by lia);have Zb:∀ρ,tZ [.int (2:Nat)] ρ=.ok (aY 0 2,ρ):=λρ=>jW 2 (by lia);have e1:=bI (f:=oE [none,some 0] (ba 0) cu (fy 2 cv (af (ag 1) (af (ag 0) au))) [some (cG 4 D m),some (bN ds),none,none,none,none,none]) (c:=λp:Nat=>U.int (p:Nat)) (g:=tU) (xs:=ZU n) λp hp=>by
  simp only[Pzz,bO,Nat.reduceAdd,Nat.reduceSub,(ht p (Z6.mp hp)).1]
 have z1:((ZU n).map tU).length<=ZL:=by rw[ZF,aaa];lia
 obtain⟨d,ds',ed⟩:∃d ds',ds=d::ds':=by
  cases hq:ds with
  |nil=>rw[hq] at hd;cases hd
  |cons d ds'=>exact⟨d,ds',rfl⟩
 have h4:cC (bN ds) (.int 0)=.ok (.tup [.int d,.int (1-d)]):=by rw[ed];unfold bN;rw[wC,show (0:Int)=((0:Nat):Int) from rfl,ft];rfl
 have h5:gf [.tup [.int d,.int (1-d)]]=.ok (.int (2:Nat)):=rfl;have l0:(0:Nat)<=ZL:=by lia
 unfold bV lY;simp only[Pzz,bO,Nat.reduceAdd,Nat.reduceSub,h1,h2,h3,rg,jo n,e1,z1,h4,h5,Zb,l0,aaI]
theorem sR (S:St n o D m T)(hd:ds.length=4)(h:∀c,c<n->yx T c ds=false):bV [cG 4 D m,bN ds]=.ok .non:=by
 obtain⟨tU,ht,e⟩:=JB S hd;rw[e];obtain⟨a6,e1⟩:=yz S ht hd (k:=0) (by decide) (ps:=[]) (by decide) (x0:=some (cG 4 D m)) (o5:=none) (o6:=none);have ef:(ZU n).filter (l9 T o (eA 0 ds) [])=[]:=List.filter_eq_nil_iff.mpr λp hp=>by
  have hp:=Z6.mp hp;have lo:p<o.length:=by rw[S.ln];exact hp
  have:=mM S.po _ (aau lo);have c:pl o p<n:=by unfold pl;rw[ZV,ZH lo];show (o[p]).toNat<n;lia
  have dc:eA 0 ds=ds:=by unfold eA;rw[show (λd:Int=>if 0=0 then d else 1-d)=id from rfl,List.map_id]
  unfold l9;rw[dc,h _ c];exact ZM
 rw[ef] at e1;rw[show aY 0 2=[.int (0:Nat),.int (1:Nat)] from rfl,cI];have e2:ba 4 (.int (0:Nat)) [some (cG 4 D m),some (bN ds),some (.lst ((ZU n).map tU)),some (.lst (([]:List Nat).map λq:Nat=>U.int (q:Nat))),none,none,none]=.ok [some (cG 4 D m),some (bN ds),some (.lst ((ZU n).map tU)),some (.lst (([]:List Nat).map λq:Nat=>U.int (q:Nat))),some (.int (0:Nat)),none,none]:=rfl;rw[e2];show pY .S (((dg _).turn _).seq _)=_;rw[e1];rfl
theorem St.at (S:St n o D m T){c:Nat}(hc:c<n):∃p,p<n/\pl o p=c:=by
 have:(c:Int)∈o:=S.po.mem_iff.mpr (t8.mpr ⟨by lia,by lia⟩);obtain⟨p,hp,e⟩:=ac2.mp this;refine⟨p,by rw[←S.ln];exact hp,?_⟩;unfold pl;rw[ZV,ZH hp];show (o[p]).toNat=c;lia
theorem LZ (S:St n o D m T)(hd:ds.length=4){c0 c1:Nat}(h0:c0<n)(h1:c1<n)(a0:yx T c0 ds=true)(a1:yx T c1 (eA 1 ds)=true):∃e:U,bV [cG 4 D m,bN ds]=.ok (.tup [.str "end",e]):=by
 obtain⟨tU,ht,e⟩:=JB S hd;rw[e];have dc:eA 0 ds=ds:=by unfold eA;rw[show (λd:Int=>if 0=0 then d else 1-d)=id from rfl,List.map_id]
 obtain⟨p0,hp0,e0⟩:=S.at h0;obtain⟨p1,hp1,e1⟩:=S.at h1;have f0:p0∈(ZU n).filter (l9 T o (eA 0 ds) []):=aa5.mpr ⟨Z6.mpr hp0,by unfold l9;rw[e0,dc,a0];rfl⟩;obtain⟨a6,s0⟩:=yz S ht hd (k:=0) (by decide) (ps:=[]) (by decide) (x0:=some (cG 4 D m)) (o5:=none) (o6:=none);cases ef:(ZU n).filter (l9 T o (eA 0 ds) []) with
 |nil=>rw[ef] at f0;cases f0
 |cons q r=>
  rw[ef] at s0;have hq:q∈(ZU n).filter (l9 T o (eA 0 ds) []):=by rw[ef];exact ZG
  have aq:yx T (pl o q) ds=true:=by
   have:=(aa5.mp hq).2;unfold l9 at this;rw[Z7,dc] at this;exact this.1
  have nq:p1≠q:=λz=>by
   subst z;rw[e1] at aq;obtain⟨t,ht⟩:=S.has (d:=0) (by decide);have b0:=sQ.mp aq 0 (by decide) t ht;have b1:=sQ.mp a1 0 (by decide) t ht;unfold eA at b1;cases ds with
   |nil=>cases hd
   |cons d ds'=>
    have b0:t.getD c1 0=d:=b0;have b1:t.getD c1 0=1-d:=b1;lia
  obtain⟨b6,s1⟩:=yz S ht hd (k:=1) (by decide) (ps:=[q]) (by rw[abp];decide) (x0:=some (cG 4 D m)) (o5:=some (ah (eA 0 ds))) (o6:=a6);have f1:p1∈(ZU n).filter (l9 T o (eA 1 ds) [q]):=aa5.mpr ⟨Z6.mpr hp1,by
   unfold l9;rw[e1,a1,Bool.true_and,ae7,List.contains_eq_mem,hJ];rw[Z1];exact nq⟩
  cases ef1:(ZU n).filter (l9 T o (eA 1 ds) [q]) with
  |nil=>rw[ef1] at f1;cases f1
  |cons q' r'=>
   rw[ef1] at s1;have l2:(2:Nat)<=ZL:=by decide
   rw[show aY 0 2=[.int (0:Nat),.int (1:Nat)] from rfl,cI];have g0:ba 4 (.int (0:Nat)) [some (cG 4 D m),some (bN ds),some (.lst ((ZU n).map tU)),some (.lst (([]:List Nat).map λq:Nat=>U.int (q:Nat))),none,none,none]=.ok [some (cG 4 D m),some (bN ds),some (.lst ((ZU n).map tU)),some (.lst (([]:List Nat).map λq:Nat=>U.int (q:Nat))),some (.int (0:Nat)),none,none]:=rfl;rw[g0];show ∃e,pY .S (((dg _).turn _).seq _)=_;rw[s0];show ∃e,pY .S ((bY (ba 4) dg [.int (1:Nat)] [some (cG 4 D m),some (bN ds),some (.lst ((ZU n).map tU)),some (.lst (([q]:List Nat).map λq:Nat=>U.int (q:Nat))),some (.int (0:Nat)),some (ah (eA 0 ds)),a6]).seq _)=_;rw[cI];have g1:ba 4 (.int (1:Nat)) [some (cG 4 D m),some (bN ds),some (.lst ((ZU n).map tU)),some (.lst (([q]:List Nat).map λq:Nat=>U.int (q:Nat))),some (.int (0:Nat)),some (ah (eA 0 ds)),a6]=.ok [some (cG 4 D m),some (bN ds),some (.lst ((ZU n).map tU)),some (.lst (([q]:List Nat).map λq:Nat=>U.int (q:Nat))),some (.int (1:Nat)),some (ah (eA 0 ds)),a6]:=rfl;rw[g1];show ∃e,pY .S (((dg _).turn _).seq _)=_;rw[s1];exact⟨ah [q,q'],by kernel_rfl⟩
end
def lD (T:Tb)(c:Nat)(v:Int):Tb:=λd=>(T d).filter λt=>t.getD c 0==v
def seen (T:Tb)(c:Nat):List Int:=(ZU 4).flatMap λd=>(T d).map λt=>t.getD c 0
def L7 (T:Tb)(c:Nat):Bool:=(seen T c).all λv=>(ZU 4).all λd=>(lD T c v d).length==(lD T c v 0).length
def AK (T:Tb)(c:Nat):Bool:=(seen T c).all λv=>(seen T c).all λw=>v==w
theorem va {c:Nat}{v:Int}:v∈seen T c↔∃d,d<4/\∃t∈T d,t.getD c 0=v:=by
 unfold seen;rw[aa8];constructor
 ·rintro⟨d,hd,h⟩;obtain⟨t,ht,e⟩:=ZO.mp h;exact⟨d,Z6.mp hd,t,ht,e⟩
 ·rintro⟨d,hd,t,ht,e⟩;exact⟨d,Z6.mpr hd,ZO.mpr ⟨t,ht,e⟩⟩
theorem NY {l:List (List Int)}(ne:l≠[]):(aP l).length=1↔∀x∈l,∀y∈l,x=y:=by
 have mem:∀x,x∈aP l↔x∈l:=λx=>by
  unfold aP;rw[bQ];exact⟨λh=>h.elim (λz=>by cases z) id,.inr⟩
 have nd:(aP l).Nodup:=kW _ _ abi;constructor
 ·intro h x hx y hy;obtain⟨z,e⟩:=List.length_eq_one_iff.mp h;have a:=(mem x).mpr hx;have b:=(mem y).mpr hy;rw[e,Z1] at a b;rw[a,b]
 ·intro h;cases e:aP l with
  |nil=>
   obtain⟨x,hx⟩:=aeS l ne;have:=(mem x).mpr hx;rw[e] at this;cases this
  |cons x r=>
   cases r with
   |nil=>rfl
   |cons y r=>
    rw[e] at nd mem;have:=h x ((mem x).mp ZG) y ((mem y).mp (ZK _ ZG));rw[this] at nd;exact absurd ZG (aax.mp nd).1
theorem L8 {a b D:Int}(ha:0<=a)(hb:0<=b)(hD:0<D)(h:NW (c7 a D)=NW (c7 b D)):a=b:=by
 have:c7 a D=c7 b D:=by
  unfold NW at h;injection h with h1 h2
  injection h2 with h2 _
  exact Prod.ext h1 h2
 rw[←Ck ha hD,←Ck hb hD,this]
section
variable {D:Int}{m:Fs}
theorem JC (r:List Int)(p:Nat):aQ r [(p:Int)]=[r.getD p 0]:=rfl
theorem St.pt (S:St n o D m T)(hp:p<n)(v:Int):eB o (m.filter (oA [(p:Int)] [v])) (lD T (pl o p) v):=by
 have:=S.r.filt λr=>decide (aQ r [(p:Int)]=[v]);have e:(λd=>(T d).filter λt=>decide (aQ (aQ t o) [(p:Int)]=[v]))=lD T (pl o p) v:=by
  funext d;unfold lD;apply List.filter_congr;intro t _;rw[JC,yy (by rw[S.ln];exact hp)];rw[aaw,decide_eq_true_iff,beq_iff_eq];exact⟨λh=>by injection h,λh=>by rw[h]⟩
 rw[←e];exact this
theorem St.keys (S:St n o D m T)(hp:p<n)(k:List Int):k∈m.map (iQ [(p:Int)])↔∃v∈seen T (pl o p),k=[v]:=by
 have lo:p<o.length:=by rw[S.ln];exact hp
 rw[ZO];constructor
 ·rintro⟨x,hx,rfl⟩;obtain⟨d,hd,h⟩:=S.r.p x hx;obtain⟨t,ht,e⟩:=S.r.pos S.nn hx hd h;exact⟨t.getD (pl o p) 0,va.mpr ⟨d,hd,t,ht,rfl⟩,by unfold iQ;rw[←e,JC,yy lo]⟩
 ·rintro⟨v,hv,rfl⟩;obtain⟨d,hd,t,ht,e⟩:=va.mp hv;obtain⟨x,hx,h1,_⟩:=S.r.mem hd ht;exact⟨x,hx,by unfold iQ;rw[h1,JC,yy lo,e]⟩
theorem St.kne (S:St n o D m T)(ps:List Int):m.map (iQ ps)≠[]:=λe=>S.k.ne (List.map_eq_nil_iff.mp e)
theorem To (m:Fs)(d:Nat):sD m d=sw m (λ_=>true) d:=rfl
theorem NZ (S:St n o D m T)(hp:p<n){v:Int}(x:List Int)(hx:pq n 4 D (m.filter (oA [(p:Int)] [v]))):qS 4 D (x,m.filter (oA [(p:Int)] [v]))=(ZU 4).all λd=>(lD T (pl o p) v d).length==(lD T (pl o p) v 0).length:=by
 have r:=S.pt hp v;have e:∀d,d<4->sD (m.filter (oA [(p:Int)] [v])) d=((lD T (pl o p) v d).length:Int):=λd hd=>by
  rw[To,r.s _ d hd];unfold cn;rw[List.filter_eq_self.mpr λ_ _=>rfl]
 unfold qS;rw[aaw,beq_iff_eq,aag];have c:((cS 4 D (m.filter (oA [(p:Int)] [v])):Nat):Int)=1↔cS 4 D (m.filter (oA [(p:Int)] [v]))=1:=by lia
 show ((cS 4 D (m.filter (oA [(p:Int)] [v])):Nat):Int)=1↔_;rw[c];unfold cS;rw[NY (by intro z;cases z)];constructor
 ·intro h d hd;have hd:=Z6.mp hd;have:=h _ (ZO.mpr ⟨d,Z6.mpr hd,rfl⟩) _ (ZO.mpr ⟨0,Z6.mpr (by decide),rfl⟩);rw[e d hd,e 0 (by decide)] at this;have:=L8 (by lia) (by lia) hx.d0 this;rw[beq_iff_eq];lia
 ·intro h a ha b hb;obtain⟨d,hd,rfl⟩:=ZO.mp ha;obtain⟨d',hd',rfl⟩:=ZO.mp hb;have h1:=eq_of_beq (h d hd);have h2:=eq_of_beq (h d' hd');rw[e d (Z6.mp hd),e d' (Z6.mp hd'),h1,h2]
theorem VD (hp:p<n):Q1 n [(p:Int)]:=⟨(by intro z;cases z),(λi hi=>by rw[Z1] at hi;lia),by rw[abp];decide⟩
theorem N0 (S:St n o D m T)(hp:p<n):b_ [cG 4 D m,ah [(p:Int)]]=.ok (.bl (L7 T (pl o p))):=by
 rw[Jy S.k (VD hp)];congr 2;rw[aaw,aag];unfold L7;rw[aag];constructor
 ·intro h v hv;have hk:[v]∈eF (aP (m.map (iQ [(p:Int)]))):=(aM _).mem_iff.mpr ((bQ _ _ _).mpr (.inr ((S.keys hp _).mpr ⟨v,hv,rfl⟩)));have hx:([v],m.filter (oA [(p:Int)] [v]))∈Lk m [(p:Int)]:=ZO.mpr ⟨[v],hk,rfl⟩;rw[←NZ S hp [v] (Ej S.k _ hx)];exact h _ hx
 ·intro h x hx;have ok:=Ej S.k x hx;obtain⟨k,hk,rfl⟩:=ZO.mp hx;rcases (bQ _ _ _).mp ((aM _).mem_iff.mp hk) with z|z
  ·cases z
  ·obtain⟨v,hv,rfl⟩:=(S.keys hp k).mp z;rw[NZ S hp [v] ok];exact h v hv
theorem JD (S:St n o D m T)(hp:p<n):(Lk m [(p:Int)]).length=1↔AK T (pl o p)=true:=by
 unfold Lk;rw[ZF,(aM _).length_eq,NY (S.kne _)];unfold AK;rw[aag];constructor
 ·intro h v hv;refine aag.mpr λw hw=>?_;have:=h _ ((S.keys hp [v]).mpr ⟨v,hv,rfl⟩) _ ((S.keys hp [w]).mpr ⟨w,hw,rfl⟩);injection this with this
  rw[this];exact beq_self_eq_true _
 ·intro h x hx y hy;obtain⟨v,hv,rfl⟩:=(S.keys hp x).mp hx;obtain⟨w,hw,rfl⟩:=(S.keys hp y).mp hy;rw[eq_of_beq (aag.mp (h v hv) w hw)]
theorem L9 (k:Nat):cV .S 7 (cB k)=ax k:=rfl
theorem Eo (S:St n o D m T)(hp:p<n)(h:L7 T (pl o p)=false\/AK T (pl o p)=true)(k:Nat)(ds menu dep:U):bq (k+1) [cG 4 D m,.int (p:Nat),ds,menu,dep]=.ok .non:=by
 have q:=N0 S hp;have l1:(1:Nat)<=ZL:=by decide
 have r1:U.tup [.int (p:Nat)]=ah [(p:Int)]:=rfl;unfold bq;rw[dq,L9];by_cases c:L7 T (pl o p)=true
 ·have c2:AK T (pl o p)=true:=by
   rcases h with h|h
   ·rw[h] at c;cases c
   ·exact h
  have lo:=yv S.k (VD hp);have ll:=(JD S hp).mpr c2;have le:gf [vT 4 D (Lk m [(p:Int)])]=.ok (.int (1:Nat)):=by unfold vT;rw[pZ,ZF,ll]
  rw[c] at q;simp only[Pzz,bO,Nat.reduceAdd,Nat.reduceSub,l1,r1,q,lo,le,aaz,eG,id_eq];rfl
 ·rw[Bool.not_eq_true] at c;rw[c] at q;simp only[Pzz,bO,Nat.reduceAdd,Nat.reduceSub,l1,r1,q,abu]
end
section
variable {D:Int}{m:Fs}
def UJ (r:List U->R U):Ev->SR:=aK (bp 9 (fy 4 r (af (ag 8) (af (ag 2) (af (ag 3) (af (aU rE (ag 4) (gC (.int 1))) au))))))
 (aK (mS (gB (aU (j5 id) (ag 9) (gC .non))) (bc (gC .non)) bS)
 (oz (gM "list" 6 iS (af (aV (af (ag 7) (af (ag 9) au))) au))))
theorem Tp (k:Nat):dq (k+1)=aK (mS (Bn (gB (fy 2 b_ (af (ag 0) (af (aV (af (ag 1) au)) au))))) (bc (gC .non)) bS)
 (aK (bp 5 (fy 2 bU (af (ag 0) (af (aV (af (ag 1) au)) au))))
 (aK (mS (gB (aU (jC id) (iD gf (af (ag 5) au)) (gC (.int 1)))) (bc (gC .non)) bS)
 (aK (bp 6 (fR au))
 (aK (gO (c_ (ag 5)) (bz 2 (ay (ba 7) (ay (ba 8) bx))) (UJ (ax k)))
 (bc (aV (af (gC (.str "look")) (af (aV (af (ag 1) au)) (af (iD cW (af (ag 6) au)) au))))))))):=by
 rw[dq];rfl
def JZ (r:List U->R U):Ev->SR:=aK (bp 4 (fy 5 r (af (ag 0) (af (ag 5) (af (ag 1) (af (ag 2) (af (ag 3) au))))))) (mS (gB (aU (j5 not) (ag 4) (gC .non))) (bc (ag 4)) bS)
def FR (r:List U->R U):Ev->SR:=aK (bp 4 (fy 5 r (af (ag 0) (af (ag 6) (af (ag 1) (af (ag 2) (af (ag 3) au))))))) (mS (gB (aU (j5 not) (ag 4) (gC .non))) (bc (ag 4)) bS)
theorem AL (k:Nat):cB (k+1)=aK (bp 4 (fy 2 bV (af (ag 0) (af (ag 1) au))))
 (aK (mS (MK (gB (aU (j5 not) (ag 4) (gC .non))) (gB (aU (jC id) (ag 3) (gC (.int 0))))) (bc (ag 4)) bS)
 (aK (gO (kY (af (iD gf (af (aU cC (aU cC (ag 0) (gC (.int 0))) (gC (.int 0))) au)) au)) (ba 5) (JZ (bq k)))
 (aK (mS (gB (aU (jC id) (ag 3) (gC (.int 1)))) (bc (gC .non)) bS)
 (aK (gO (c_ (ag 2)) (ba 6) (FR (aO k)))
 (bc (gC .non)))))):=by
 rw[cB];rfl
theorem AM:tT (.tup us)=false:=nr rfl
theorem vb:tT .non=true:=nr rfl
theorem JE {st ds dep e:U}(h:bV [st,ds]=.ok (.tup [.str "end",e]))(k:Nat):ax (k+1) [st,ds,menu,dep]=.ok (.tup [.str "end",e]):=by
 unfold ax;rw[AL];simp only[Pzz,bO,Nat.reduceAdd,Nat.reduceSub,h,AM,abu]
theorem L_ {st ds:U}(h:bV [st,ds]=.ok .non)(k:Nat):ax (k+1) [st,ds,menu,.int 0]=.ok .non:=by
 unfold ax;rw[AL];simp only[Pzz,bO,Nat.reduceAdd,Nat.reduceSub,h,vb,aaz,eG,beq_self_eq_true,id_eq]
def Qt (u:U):Prop:=∃(p:Nat) (ws:List U),u=.tup [.str "look",.tup [.int (p:Nat)],.tup ws]/\ws≠[]/\ws.length<=60/\∀w∈ws,∃s e,w=.tup [s,.tup [.str "end",e]]
def Qu (n:Nat)(ds:List Int)(T:Tb):Bool:=(ZU n).any (λc=>yx T c ds)&&(ZU n).any λc=>yx T c (eA 1 ds)
theorem Ep (S:St n o D m T)(hd:ds.length=4)(h:Qu n ds T=true):∃e:U,bV [cG 4 D m,bN ds]=.ok (.tup [.str "end",e]):=by
 unfold Qu at h;rw[Z7,ab7,ab7] at h;obtain⟨⟨c0,h0,a0⟩,c1,h1,a1⟩:=h;exact LZ S hd (Z6.mp h0) (Z6.mp h1) a0 a1
theorem Ma (S:St n o D m T)(hp:p<n)(hq:L7 T (pl o p)=true)(hc:AK T (pl o p)=false)(hd:ds.length=4)(hg:∀v∈seen T (pl o p),Qu n ds (lD T (pl o p) v)=true)(k:Nat)(menu:U) :
  ∃u,Qt u/\bq (k+2) [cG 4 D m,.int (p:Nat),bN ds,menu,.int 1]=.ok u:=by
 have sz:ZL=16777216:=rfl;have q:=N0 S hp;rw[hq] at q;have lo:=yv S.k (VD hp);have kl:=Co (ps:=[(p:Int)]) S.k;have Ll:(Lk m [(p:Int)]).length<=60:=by unfold Lk;rw[ZF,(aM _).length_eq];exact kl
 have L1:(Lk m [(p:Int)]).length≠1:=λz=>by rw[(JD S hp).mp z] at hc;cases hc
 have L0:(Lk m [(p:Int)]).length≠0:=λz=>by
  unfold Lk at z;rw[ZF,(aM _).length_eq] at z;obtain⟨x,hx⟩:=aeS _ (S.kne [(p:Int)]);have:=(bQ _ [] x).mpr (.inr hx);have e:aP (m.map (iQ [(p:Int)]))=[]:=List.length_eq_zero_iff.mp z;unfold aP at e;rw[e] at this;cases this
 have le:gf [vT 4 D (Lk m [(p:Int)])]=.ok (.int ((Lk m [(p:Int)]).length:Nat)):=by unfold vT;rw[pZ,ZF]
 have ne:((((Lk m [(p:Int)]).length:Nat):Int)==1)=false:=by rw[beq_eq_false_iff_ne];lia
 have sb:∀ρ,jB (vT 4 D (Lk m [(p:Int)])) ρ=.ok ((Lk m [(p:Int)]).map (LP 4 D),ρ):=λρ=>rfl;have l1:(1:Nat)<=ZL:=by decide
 have l2:(2:Nat)<=ZL:=by decide
 have l3:(3:Nat)<=ZL:=by decide
 have l0:(0:Nat)<=ZL:=by decide
 have r1:U.tup [.int (p:Nat)]=ah [(p:Int)]:=rfl;obtain⟨ρ',e,ws,a7,a8,a9,rfl,wl,hw⟩:=cZ (us:=(Lk m [(p:Int)]).map (LP 4 D)) (sg:=bz 2 (ay (ba 7) (ay (ba 8) bx))) (s:=UJ (ax (k+1)))
  (λi ρ=>∃(ws:List U) (a7 a8 a9:Option U),ρ=[some (cG 4 D m),some (.int (p:Nat)),some (bN ds),some menu,some (.int 1),some (vT 4 D (Lk m [(p:Int)])),some (.lst ws),a7,a8,a9]/\ws.length=i/\∀w∈ws,∃s e,w=.tup [s,.tup [.str "end",e]])
  (λi u ρ hu h00=>by
   obtain⟨ws,a7,a8,a9,hr,wl,hw⟩:=h00;subst hr;have hi:i<(Lk m [(p:Int)]).length:=by have:=(ZQ.mp hu).1;rwa [ZF] at this
   rw[ZT,ZH hi] at hu;obtain rfl:LP 4 D (Lk m [(p:Int)])[i]=u:=by injection hu
   have hx:=aau hi;have ok:=Ej S.k _ hx;obtain⟨kk,hk,ex⟩:=ZO.mp hx;rcases (bQ _ _ _).mp ((aM _).mem_iff.mp hk) with z|z
   ·cases z
   obtain⟨v,hv,rfl⟩:=(S.keys hp kk).mp z;rw[←ex] at ok ⊢;have S':St n o D (m.filter (oA [(p:Int)] [v])) (lD T (pl o p) v):=⟨ok,S.po,S.n8,S.pt hp v,λd hd=>by
    have q1:∀d,d<4->(lD T (pl o p) v d).length=(lD T (pl o p) v 0).length:=λd hd=>by
     unfold L7 at hq;exact eq_of_beq (aag.mp (aag.mp hq v hv) d (Z6.mpr hd))
    obtain⟨d1,JU,t,ht,et⟩:=va.mp hv;have:0<(lD T (pl o p) v d1).length:=adO (aa5.mpr ⟨ht,by rw[et];exact beq_self_eq_true _⟩);have a:=q1 d hd;have b:=q1 d1 JU;intro z;rw[z,abM] at a;lia⟩
   obtain⟨en,ee⟩:=Ep S' hd (hg v hv);have pe:=JE (menu:=menu) (dep:=.int 0) ee k;refine⟨_,_,Ci,.inl ?_,ws++[.tup [ah [v],.tup [.str "end",en]]],some (ah [v]),some (cG 4 D (m.filter (oA [(p:Int)] [v]))),some (.tup [.str "end",en]),rfl,by rw[Z3,wl];rfl,λw Zc=>?_⟩
   ·have zl:ws.length<ZL:=by lia
    show UJ (ax (k+1)) [some (cG 4 D m),some (.int (p:Nat)),some (bN ds),some menu,some (.int 1),some (vT 4 D (Lk m [(p:Int)])),some (.lst ws),some (ah [v]),some (cG 4 D (m.filter (oA [(p:Int)] [v]))),a9]=_;unfold UJ;simp only[Pzz,bO,Nat.reduceAdd,Nat.reduceSub,Int.reduceSub,pe,AM,id_eq,l2,Eh,zl]
   ·rcases aam.mp Zc with z|z
    ·exact hw w z
    ·rw[Z1] at z;exact⟨_,_,z⟩) ⟨[],none,none,none,rfl,rfl,λw hw=>by cases hw⟩
 rw[ZF] at wl;have zw:ws.length<=ZL:=by lia
 refine⟨.tup [.str "look",.tup [.int (p:Nat)],.tup ws],⟨p,ws,rfl,λz=>by rw[z] at wl;exact L0 wl.symm,by lia,hw⟩,?_⟩;unfold bq;rw[Tp];simp only[Pzz,bO,Nat.reduceAdd,Nat.reduceSub,l1,l3,l0,r1,q,lo,le,aaz,eG,id_eq,ne,sb,e,zw]
end
section
variable {D:Int}{m:Fs}
def FT (T:Tb)(c:Nat):Bool:= !(L7 T c)||AK T c
theorem Er {c:Nat}:FT T c=true↔L7 T c=false\/AK T c=true:=by
 unfold FT;rw[ack,ae7]
theorem St.pl_lt (S:St n o D m T)(hp:p<n):pl o p<n:=by
 have lo:p<o.length:=by rw[S.ln];exact hp
 have:=mM S.po _ (aau lo);unfold pl;rw[ZV,ZH lo];show (o[p]).toNat<n;lia
theorem St.hd (S:St n o D m T):∃q:List Int×(Nat->Int),cC (cG 4 D m) (.int 0)=.ok (pU 4 D q)/\cC (pU 4 D q) (.int 0)=.ok (ah q.1)/\gf [ah q.1]=.ok (.int (n:Nat)):=by
 obtain⟨q,m',em⟩:∃q m',m=q::m':=by
  cases hq:m with
  |nil=>exact absurd hq S.k.ne
  |cons q m'=>exact⟨q,m',rfl⟩
 refine⟨q,by rw[em];unfold cG;rw[jd,show (0:Int)=((0:Nat):Int) from rfl,ft];rfl,WZ q,?_⟩;unfold ah;rw[lM,ZF,(S.k.el q (by rw[em];exact ZG)).1]
theorem xg (S:St n o D m T)(h:∀c,c<n->FT T c=true)(k:Nat)(ds menu dep:U):∃o5,bY (ba 5) (JZ (bq (k+1))) (aY 0 n) [some (cG 4 D m),some ds,some menu,some dep,some .non,none,none]=.nx [some (cG 4 D m),some ds,some menu,some dep,some .non,o5,none]:=by
 rw[jo];obtain⟨ρ',e,o5,rfl⟩:=cZ (us:=(ZU n).map λp:Nat=>U.int (p:Nat)) (sg:=ba 5) (s:=JZ (bq (k+1)))
  (λ_ ρ=>∃o5,ρ=[some (cG 4 D m),some ds,some menu,some dep,some .non,o5,none]) (λi u ρ hu h00=>by
   obtain⟨o5,hr⟩:=h00;subst hr;have hi:i<n:=by have:=(ZQ.mp hu).1;rwa [ZF,aaa] at this
   rw[ZT,aaT hi] at hu;obtain rfl:U.int (i:Nat)=u:=by injection hu
   have l:=Eo S hi (Er.mp (h _ (S.pl_lt hi))) k ds menu dep;refine⟨_,_,rfl,.inl ?_,some (.int (i:Nat)),rfl⟩;show JZ (bq (k+1)) [some (cG 4 D m),some ds,some menu,some dep,some .non,some (.int (i:Nat)),none]=_;unfold JZ;simp only[Pzz,bO,Nat.reduceAdd,Nat.reduceSub,l,vb,aaz]) ⟨none,rfl⟩
 exact⟨o5,e⟩
theorem AN (S:St n o D m T)(hd:ds.length=4)(hr:∀c,c<n->yx T c ds=false)(h:∀c,c<n->FT T c=true)(k:Nat)(menu:U):ax (k+2) [cG 4 D m,bN ds,menu,.int 1]=.ok .non:=by
 have n8:=S.n8;have re:=sR S hd hr;obtain⟨q,h1,h2,h3⟩:=S.hd;have rg:∀ρ,tZ [.int (n:Nat)] ρ=.ok (aY 0 n,ρ):=λρ=>jW n (by lia);obtain⟨o5,e⟩:=xg S h k (bN ds) menu (.int 1);have ne:((1:Int)==0)=false:=by decide
 unfold ax;rw[AL];simp only[Pzz,bO,Nat.reduceAdd,Nat.reduceSub,re,vb,aaz,eG,ne,beq_self_eq_true,id_eq,h1,h2,h3,rg,e]
theorem Qv (S:St n o D m T)(hd:ds.length=4)(hr:∀c,c<n->yx T c ds=false)(h:∀c,c<n->FT T c=true)(k:Nat)(ms:List U):∃o5,ax (k+2) [cG 4 D m,bN ds,.tup ms,.int 2]=pY .S ((bY (ba 6) (FR (aO (k+1))) ms [some (cG 4 D m),some (bN ds),some (.tup ms),some (.int 2),some .non,o5,none]).seq (bc (gC .non))):=by
 have n8:=S.n8;have re:=sR S hd hr;obtain⟨q,h1,h2,h3⟩:=S.hd;have rg:∀ρ,tZ [.int (n:Nat)] ρ=.ok (aY 0 n,ρ):=λρ=>jW n (by lia);obtain⟨o5,e⟩:=xg S h k (bN ds) (.tup ms) (.int 2);have ne:((2:Int)==0)=false:=by decide
 have V6:((2:Int)==1)=false:=by decide
 refine⟨o5,?_⟩;unfold ax;rw[AL];simp only[Pzz,bO,Nat.reduceAdd,Nat.reduceSub,re,vb,aaz,eG,ne,V6,id_eq,h1,h2,h3,rg,e]
def VE (n:Nat)(ds:List Int)(T:Tb)(c:Nat):Bool:=L7 T c && !(AK T c)&&(seen T c).all λv=>Qu n ds (lD T c v)
theorem JF (S:St n o D m T)(hd:ds.length=4)(hr:∀c,c<n->yx T c ds=false)(h:∀c,c<n->FT T c=true\/VE n ds T c=true)(hs:∃c,c<n/\FT T c=false)(k:Nat)(menu:U):∃u,Qt u/\ax (k+3) [cG 4 D m,bN ds,menu,.int 1]=.ok u:=by
 have n8:=S.n8;have re:=sR S hd hr;obtain⟨q,h1,h2,h3⟩:=S.hd;have rg:∀ρ,tZ [.int (n:Nat)] ρ=.ok (aY 0 n,ρ):=λρ=>jW n (by lia);have ne:((1:Int)==0)=false:=by decide
 rcases u_ (b:=0) (us:=(ZU n).map λp:Nat=>U.int (p:Nat)) (sg:=ba 5) (s:=JZ (bq (k+2)))
  (λi ρ=>(∃o5,ρ=[some (cG 4 D m),some (bN ds),some menu,some (.int 1),some .non,o5,none])/\∀p,p<i->p<n->FT T (pl o p)=true) Qt (ρ:=[some (cG 4 D m),some (bN ds),some menu,some (.int 1),some .non,none,none]) (λi u ρ hu ⟨⟨o5,hr⟩,inv⟩=>by
   subst hr;rw[abd] at inv ⊢;have hi:i<n:=by have:=(ZQ.mp hu).1;rwa [ZF,aaa] at this
   rw[ZT,aaT hi] at hu;obtain rfl:U.int (i:Nat)=u:=by injection hu
   refine⟨_,rfl,?_⟩;by_cases c:FT T (pl o i)=true
   ·left;have l:=Eo S hi (Er.mp c) (k+1) (bN ds) menu (.int 1);refine⟨_,?_,⟨some (.int (i:Nat)),rfl⟩,λp hp hn=>?_⟩
    ·show JZ (bq (k+2)) [some (cG 4 D m),some (bN ds),some menu,some (.int 1),some .non,some (.int (i:Nat)),none]=_;unfold JZ;simp only[Pzz,bO,Nat.reduceAdd,Nat.reduceSub,l,vb,aaz]
    ·by_cases e:p=i
     ·subst e;exact c
     ·exact inv p (by lia) hn
   ·right;have ok:=(h _ (S.pl_lt hi)).resolve_left c;unfold VE at ok;rw[Z7,Z7,ae7] at ok;obtain⟨⟨k1,k2⟩,k3⟩:=ok;obtain⟨u,hu,e⟩:=Ma S hi k1 k2 hd (λv hv=>aag.mp k3 v hv) k menu;have gG:=hu;obtain⟨p,ws,eu,_⟩:=gG;refine⟨u,[some (cG 4 D m),some (bN ds),some menu,some (.int 1),some u,some (.int (i:Nat)),none],hu,?_⟩;show JZ (bq (k+2)) [some (cG 4 D m),some (bN ds),some menu,some (.int 1),some .non,some (.int (i:Nat)),none]=_;have nu:tT u=false:=by rw[eu,AM]
    unfold JZ;simp only[Pzz,bO,Nat.reduceAdd,Nat.reduceSub,e,nu,abu]) ⟨⟨none,rfl⟩,λp hp=>by lia⟩ with⟨ρ',e,_,inv⟩|⟨u,ρ',hu,e⟩
 ·obtain⟨c,hc,z⟩:=hs;obtain⟨p,hp,e⟩:=S.at hc;have:=inv p (by rw[abd,ZF,aaa];exact hp) hp;rw[e,z] at this;cases this
 ·refine⟨u,hu,?_⟩;rw[←jo] at e;unfold ax;rw[AL];simp only[Pzz,bO,Nat.reduceAdd,Nat.reduceSub,re,vb,aaz,eG,ne,id_eq,h1,h2,h3,rg,e]
theorem N1 (k:Nat):e_ (k+1)=aK (bp 5 (fy 4 (ax k) (af (fy 2 bB (af (ag 0) (af (ag 1) au))) (af (ag 2) (af (ag 3) (af (aU rE (ag 4) (gC (.int 1))) au))))))
 (bc (Us (gB (aU (j5 id) (ag 5) (gC .non))) (gC .non) (aV (af (gC (.str "mix")) (af (ag 1) (af (ag 5) au)))))):=by
 rw[e_];rfl
theorem Mb {st bL ds:U}(h1:bB [st,sh]=.ok bL)(h2:ax k [bL,ds,menu,.int 1]=.ok .non):aO (k+1) [st,sh,ds,menu,.int 2]=.ok .non:=by
 unfold aO;rw[N1];simp only[Pzz,bO,Nat.reduceAdd,Nat.reduceSub,h1,Int.reduceSub,h2,vb,id_eq]
theorem Mc {st bL ds:U}(h1:bB [st,sh]=.ok bL)(hu:Qt u)(h2:ax k [bL,ds,menu,.int 1]=.ok u):aO (k+1) [st,sh,ds,menu,.int 2]=.ok (.tup [.str "mix",sh,u]):=by
 have nu:tT u=false:=by obtain⟨p,ws,e,_⟩:=hu;rw[e,AM]
 have l3:(3:Nat)<=ZL:=by decide
 unfold aO;rw[N1];simp only[Pzz,bO,Nat.reduceAdd,Nat.reduceSub,h1,Int.reduceSub,h2,nu,id_eq,l3]
theorem Me {x6:Option U}{st ds:U}(h:aO k [st,sh,ds,menu,.int 2]=.ok .non):FR (aO k) [some st,some ds,some menu,some (.int 2),x4,x5,some sh]=.nx [some st,some ds,some menu,some (.int 2),some .non,x5,some sh]:=by
 unfold FR;simp only[Pzz,bO,Nat.reduceAdd,Nat.reduceSub,h,vb,aaz]
theorem Mf {x6:Option U}{st ds:U}(h:aO k [st,sh,ds,menu,.int 2]=.ok (.tup us)):FR (aO k) [some st,some ds,some menu,some (.int 2),x4,x5,some sh]=.rt (.tup us) [some st,some ds,some menu,some (.int 2),some (.tup us),x5,some sh]:=by
 unfold FR;simp only[Pzz,bO,Nat.reduceAdd,Nat.reduceSub,h,AM,abu]
end
def eI (o s:List Int):List Int:=(aQ s o).map λv=>((o.idxOf v:Nat):Int)
theorem JG {v:Int}:∀{o:List Int} {i:Nat},v∈o->FD v i (o.map U.int)=some (i+o.idxOf v)
 |a::o,i,h=>by
  rw[ZI];show (if a=v then some i else FD v (i+1) (o.map U.int))=_;rw[List.idxOf_cons];by_cases c:a=v
  ·rw[hZ c,beq_iff_eq.mpr c];rfl
  ·rw[hV c,JG ((ZX.mp h).resolve_left λz=>c z.symm),beq_eq_false_iff_ne.mpr c];show some (i+1+o.idxOf v)=some (i+(o.idxOf v+1));rw[aej,aeK 1]
theorem yA {r:List Int}(h:r.length=n):aQ r (az n)=r:=by
 unfold aQ az;rw[ZY];refine aef (by rw[ZF,aaa];exact h.symm) λi h1 h2=>?_;rw[adf,adD];show r.getD ((i:Int)).toNat 0=r[i];rw[aar,ZV,ZH h2];rfl
theorem Mg {s:List Int}(hs:br n s)(ho:br n o):br n (aQ s o):=by
 have:(aQ s o).Perm (aQ s (az n)):=List.Perm.map _ ho;rw[yA (fI hs)] at this;exact this.trans hs
theorem Qw (n:Nat):(az n).Nodup:=by
 unfold az ae_;rw[abE];exact List.Pairwise.imp (λ{a b} h e=>h (by lia)) (show List.Pairwise (·≠·) (ZU n) from ada)
theorem Mh {s:List Int}(hs:br n s)(ho:br n o):br n (eI o s):=by
 have nd:o.Nodup:=ho.symm.nodup (Qw n);have p:(aQ s o).Perm o:=(Mg hs ho).trans ho.symm;have:(eI o s).Perm (o.map λv=>((o.idxOf v:Nat):Int)):=p.map _;refine this.trans ?_;have e:(o.map λv=>((o.idxOf v:Nat):Int))=az n:=by
  unfold az;refine aef (by rw[ZF,ZF,aaa];exact fI ho) λi h1 h2=>?_;rw[adf,adf,adD,nd.idxOf_getElem]
 rw[e]
theorem AO (h:i<o.length):o.getD i 0∈o:=by rw[ZV,ZH h];exact aau h
theorem Mi {s:List Int}(hs:br n s)(ho:br n o)(t:List Int):aQ (aQ t o) (eI o s)=aQ (aQ t s) o:=by
 unfold eI;show ((aQ s o).map λv=>((o.idxOf v:Nat):Int)).map (λi=>(aQ t o).getD i.toNat 0)=o.map λi=>(aQ t s).getD i.toNat 0;unfold aQ;rw[ZY,ZY];apply Z2;intro i hi;have hb:=mM ho i hi;have ls:i.toNat<s.length:=by rw[fI hs];lia
 have hv:s.getD i.toNat 0∈o:=(hs.trans ho.symm).mem_iff.mp (AO ls);have lx:=List.idxOf_lt_length_of_mem hv;have e1:(o.map λi=>t.getD i.toNat 0).getD (o.idxOf (s.getD i.toNat 0)) 0=t.getD (s.getD i.toNat 0).toNat 0:=by
  rw[ZV,ZT,ZH lx,List.getElem_idxOf];rfl
 have e2:(s.map λi=>t.getD i.toNat 0).getD i.toNat 0=t.getD (s.getD i.toNat 0).toNat 0:=by
  rw[ZV,ZT,ZH ls,ZV (l:=s),ZH ls];rfl
 show (o.map λi=>t.getD i.toNat 0).getD (((o.idxOf (s.getD i.toNat 0):Nat):Int)).toNat 0=_;rw[aar,e1,e2]
theorem Qx (n8:n<=8)(sl:ss.length<=24)(hs:∀s∈ss,br n s)(ho:br n o):gP [ah o,SU ss]=.ok (SU (ss.map (eI o))):=by
 have sz:ZL=16777216:=rfl;have lo:=fI ho;have sb:∀ρ,jB (SU ss) ρ=.ok (ss.map ah,ρ):=λρ=>rfl;have so:∀ρ,jB (ah o) ρ=.ok (o.map U.int,ρ):=λρ=>rfl;have e1:=bI (f:=oE [none,some 0] (ba 0) cu (iD cW (af (gE (c_ (ag 1)) [none,some 1,some 0] (ba 0) cu (FE (ag 1) (af (aU cC (ag 2) (ag 0)) au))) au)) [some (ah o),some (SU ss)]) (c:=ah) (g:=λs=>ah (eI o s)) (xs:=ss) λs yM=>by
  have os:=hs s yM;have ls:=fI os;have e2:=bI (f:=oE [none,some 1,some 0] (ba 0) cu (FE (ag 1) (af (aU cC (ag 2) (ag 0)) au)) [some (ah s),some (ah o)]) (c:=U.int) (g:=λi=>U.int ((o.idxOf (s.getD i.toNat 0):Nat):Int)) (xs:=o) λi hi=>by
   have hb:=mM ho i hi;have li:i.toNat<s.length:=by rw[ls];lia
   have hv:s.getD i.toNat 0∈o:=(os.trans ho.symm).mem_iff.mp (AO li);have e3:=JA li;rw[show ((i.toNat:Nat):Int)=i by lia] at e3;have e4:∀ρ:Ev,FE (ag 1) (af (aU cC (ag 2) (ag 0)) au) [some (.int i),some (ah o),some (ah s)]=.ok (.int ((o.idxOf (s.getD i.toNat 0):Nat):Int),[some (.int i),some (ah o),some (ah s)]):=λ_=>by
    unfold FE;simp only[Pzz,bO,Nat.reduceAdd,Nat.reduceSub,e3];unfold B4 ah;dsimp only;rw[JG hv,abd];rfl
   simp only[Pzz,bO,Nat.reduceAdd,Nat.reduceSub,e4 []]
  have z:(o.map λi=>U.int ((o.idxOf (s.getD i.toNat 0):Nat):Int)).length<=ZL:=by rw[ZF];lia
  have r:U.tup (o.map λi=>U.int ((o.idxOf (s.getD i.toNat 0):Nat):Int))=ah (eI o s):=by
   unfold ah eI aQ;rw[ZY,ZY];rfl
  simp only[Pzz,bO,Nat.reduceAdd,Nat.reduceSub,so,e2,z,r]
 have z2:(ss.map λs=>ah (eI o s)).length<=ZL:=by rw[ZF];lia
 have r2:U.tup (ss.map λs=>ah (eI o s))=SU (ss.map (eI o)):=by unfold SU;rw[ZY];rfl
 unfold gP nQ;simp only[Pzz,bO,Nat.reduceAdd,Nat.reduceSub,sb,e1,z2,r2]
def nW (R:List (List Int))(ds o:List Int):U:=.lst ((R.zip ds).map λx=>.tup [ah (aQ x.1 o),.tup [.int x.2,.int (1-x.2)]])
theorem Tq (R:List (List Int))(ds:List Int):abe (λa b=>U.tup [a,b]) (R.map ah) (ds.map U.int)=(R.zip ds).map λx=>U.tup [ah x.1,.int x.2]:=by
 rw[List.zipWith_map,List.zip,List.map_zipWith]
theorem AQ (n8:n<=8){R:List (List Int)}(hR:∀r∈R,r.length=n)(Rl:R.length=4)(ho:br n o):dO [.lst (R.map ah),.lst (ds.map U.int),ah o]=.ok (nW R ds o):=by
 have sz:ZL=16777216:=rfl;have lo:=fI ho;have l2:(2:Nat)<=ZL:=by decide
 have zb:∀ρ,Lc (af (ag 0) (af (ag 1) au)) [some (.lst (R.map ah)),some (.lst (ds.map U.int)),some (ah o)]=.ok ((R.zip ds).map (λx=>U.tup [ah x.1,.int x.2]),[some (.lst (R.map ah)),some (.lst (ds.map U.int)),some (ah o)]):=λ_:Ev=>by
  rw[←Tq];rfl
 have e1:=bI (f:=oE [none,none,some 2] (bz 2 (ay (ba 0) (ay (ba 1) bx))) cu (aV (af (fy 2 fT (af (ag 0) (af (ag 2) au))) (af (aV (af (ag 1) (af (aU rE (gC (.int 1)) (ag 1)) au))) au))) [some (.lst (R.map ah)),some (.lst (ds.map U.int)),some (ah o)]) (c:=λx:List Int×Int=>U.tup [ah x.1,.int x.2]) (g:=λx=>U.tup [ah (aQ x.1 o),.tup [.int x.2,.int (1-x.2)]]) (xs:=R.zip ds) λx hx=>by
  have hr:=hR x.1 (aeq hx).1;have la:=xA (a:=x.1) (b:=o) (λi hi=>by rw[hr];exact mM ho i hi) (by lia);simp only[Pzz,bO,Nat.reduceAdd,Nat.reduceSub,Ci,la,l2]
 have z:((R.zip ds).map λx:List Int×Int=>U.tup [ah (aQ x.1 o),.tup [.int x.2,.int (1-x.2)]]).length<=ZL:=by
  rw[ZF,adG];lia
 unfold dO kQ;simp only[Pzz,bO,Nat.reduceAdd,Nat.reduceSub,zb [],e1,z];rfl
def iR (R:List (List Int))(o:List Int):List (List Int):=R.map λr=>aQ r o
def T0 (R:List (List Int)):Tb:=λd=>[R.getD d []]
def Tm (T:Tb)(ss:List (List Int)):Tb:=λd=>ss.flatMap λs=>(T d).map λt=>aQ t s
def gF (R:List (List Int))(o:List Int):U:=cG 4 1 (iX (F0 (iR R o)))
structure Cq (n:Nat)(R:List (List Int)):Prop where
 n1:1<=n
 n8:n<=8
 l:∀r∈R,r.length=n
 l4:R.length=4
section
variable {R:List (List Int)}
theorem W0 (h:Cq n R)(ho:br n o):Td n (iR R o):=⟨h.n1,h.n8,(λr hr=>by
 obtain⟨t,_,rfl⟩:=ZO.mp hr;unfold aQ;rw[ZF];exact fI ho),by unfold iR;rw[ZF,h.l4];decide,by unfold iR;rw[ZF,h.l4];decide⟩
theorem AR (h:Cq n R):(iR R o).length=4:=by unfold iR;rw[ZF,h.l4]
theorem Tr (h:Cq n R)(ho:br n o):St n o 1 (iX (F0 (iR R o))) (T0 R):=by
 have k:=LO (W0 h ho);rw[AR h] at k;refine⟨k,ho,h.n8,(eB.beg (AR h) λd hd=>⟨R.getD d [],rfl,?_⟩).res (NV _),λd _ z=>by cases z⟩;have l:d<R.length:=by rw[h.l4];exact hd
 unfold iR;rw[ZV,ZT,ZH l,ZV,ZH l];rfl
theorem VF (h:Cq n R)(ho:br n o):mI [.lst ((iR R o).map ah)]=.ok (gF R o):=by
 have:=Qi (W0 h ho) (u:=.lst ((iR R o).map ah)) λρ=>rfl;rw[AR h] at this;exact this
theorem pB (h:Cq n R)(ho:br n o)(hd:ds.length=4)(menu:U){z:Nat}(hz:z<1000):cf [nW R ds o,menu,.int (z:Nat)]=pY .S ((bY (ba 5) i6 (aY 0 (z+1)) [some (nW R ds o),some menu,some (.int (z:Nat)),some (gF R o),some (bN ds),none,none]).seq (bc (gC .non))):=by
 have sz:ZL=16777216:=rfl;have b:=VF h ho;have zl:(R.zip ds).length=4:=by rw[adG,h.l4,hd];rfl
 have sb:∀ρ,jB (nW R ds o) ρ=.ok ((R.zip ds).map (λx=>U.tup [ah (aQ x.1 o),.tup [.int x.2,.int (1-x.2)]]),ρ):=λρ=>rfl;have e1:=bI (f:=oE [none,none] (bz 2 (ay (ba 0) (ay (ba 1) bx))) cu (ag 0) [some (nW R ds o),some menu,some (.int (z:Nat)),none,none,none,none]) (c:=λx:List Int×Int=>U.tup [ah (aQ x.1 o),.tup [.int x.2,.int (1-x.2)]]) (g:=λx=>ah (aQ x.1 o)) (xs:=R.zip ds) λx hx=>by simp only[Pzz,bO,Nat.reduceAdd,Nat.reduceSub,Ci]
 have e2:=bI (f:=oE [none,none] (bz 2 (ay (ba 0) (ay (ba 1) bx))) cu (ag 1) [some (nW R ds o),some menu,some (.int (z:Nat)),some (gF R o),none,none,none]) (c:=λx:List Int×Int=>U.tup [ah (aQ x.1 o),.tup [.int x.2,.int (1-x.2)]]) (g:=λx=>U.tup [.int x.2,.int (1-x.2)]) (xs:=R.zip ds) λx hx=>by simp only[Pzz,bO,Nat.reduceAdd,Nat.reduceSub,Ci]
 have r1:((R.zip ds).map λx:List Int×Int=>ah (aQ x.1 o))=(iR R o).map ah:=by
  have:((R.zip ds).map Prod.fst)=R:=List.map_fst_zip (by rw[h.l4,hd];exact ZS _);unfold iR;rw[ZY]
  conv=>rhs;rw[←this,ZY]
  rfl
 have r2:U.lst ((R.zip ds).map λx:List Int×Int=>U.tup [.int x.2,.int (1-x.2)])=bN ds:=by
  have:((R.zip ds).map Prod.snd)=ds:=List.map_snd_zip (by rw[h.l4,hd];exact ZS _);unfold bN
  conv=>rhs;rw[←this,ZY]
  rfl
 have z1:((iR R o).map ah).length<=ZL:=by rw[ZF,AR h];decide
 have z2:((R.zip ds).map λx:List Int×Int=>U.tup [.int x.2,.int (1-x.2)]).length<=ZL:=by rw[ZF,zl];decide
 rw[r1] at e1;have rg:∀ρ,tZ [.int ((z:Int)+1)] ρ=.ok (aY 0 (z+1),ρ):=λρ=>jW (z+1) (by lia);unfold cf uN;simp only[Pzz,bO,Nat.reduceAdd,Nat.reduceSub,sb,e1,z1,b,e2,z2,r2,rg]
theorem iY {st:U}(h:ax 20 [st,dU,menu,.int (k:Nat)]=.ok .non):i6 [x0,some menu,x2,some st,some dU,some (.int (k:Nat)),x6]=.nx [x0,some menu,x2,some st,some dU,some (.int (k:Nat)),some .non]:=by
 unfold i6;simp only[Pzz,bO,Nat.reduceAdd,Nat.reduceSub,h,vb,aaz]
theorem yB {st:U}(h:ax 20 [st,dU,menu,.int (k:Nat)]=.ok (.tup us)):i6 [x0,some menu,x2,some st,some dU,some (.int (k:Nat)),x6]=.rt (.tup us) [x0,some menu,x2,some st,some dU,some (.int (k:Nat)),some (.tup us)]:=by
 unfold i6;simp only[Pzz,bO,Nat.reduceAdd,Nat.reduceSub,h,AM,abu]
theorem ic {ρ:Ev}{k:Ev->SR}:(SR.nx ρ).turn k=k ρ:=nr rfl
theorem mC {u:U}{ρ:Ev}{k:Ev->SR}:(SR.rt u ρ).turn k=.rt u ρ:=nr rfl
theorem JH:ba 5 u [x0,x1,x2,x3,x4,x5,x6]=.ok [x0,x1,x2,x3,x4,some u,x6]:=nr rfl
theorem Tt:ba 6 u [x0,x1,x2,x3,x4,x5,x6]=.ok [x0,x1,x2,x3,x4,x5,some u]:=nr rfl
theorem Tu (h:Cq n R)(ho:br n o)(hd:ds.length=4)(h0:ax 20 [gF R o,bN ds,menu,.int (0:Nat)]=.ok .non)(h1:ax 20 [gF R o,bN ds,menu,.int (1:Nat)]=.ok .non):cf [nW R ds o,menu,.int 1]=.ok .non:=by
 have:=pB h ho hd menu (z:=1) (by decide);rw[show ((1:Nat):Int)=1 from rfl,show aY 0 (1+1)=[.int (0:Nat),.int (1:Nat)] from rfl] at this;rw[this];simp only[cI,g_,JH,m6,iY h0,iY h1,ic];rfl
theorem Qy (h:Cq n R)(ho:br n o)(hd:ds.length=4)(h0:ax 20 [gF R o,bN ds,menu,.int (0:Nat)]=.ok .non)(h1:ax 20 [gF R o,bN ds,menu,.int (1:Nat)]=.ok .non)(h2:ax 20 [gF R o,bN ds,menu,.int (2:Nat)]=.ok .non):cf [nW R ds o,menu,.int 2]=.ok .non:=by
 have:=pB h ho hd menu (z:=2) (by decide);rw[show ((2:Nat):Int)=2 from rfl,show aY 0 (2+1)=[.int (0:Nat),.int (1:Nat),.int (2:Nat)] from rfl] at this;rw[this];simp only[cI,g_,JH,m6,iY h0,iY h1,iY h2,ic];rfl
theorem Tv (h:Cq n R)(ho:br n o)(hd:ds.length=4)(h0:ax 20 [gF R o,bN ds,menu,.int (0:Nat)]=.ok .non)(h1:ax 20 [gF R o,bN ds,menu,.int (1:Nat)]=.ok .non)(h2:ax 20 [gF R o,bN ds,menu,.int (2:Nat)]=.ok (.tup us)){i:Int}(i0:0<=i)(i1:i<2):cf [nW R ds o,menu,.int (2+i)]=.ok (.tup us):=by
 have:i=0\/i=1:=by lia
 rcases this with rfl|rfl
 ·have:=pB h ho hd menu (z:=2) (by decide);rw[show ((2:Nat):Int)=2+0 from rfl,show aY 0 (2+1)=[.int (0:Nat),.int (1:Nat),.int (2:Nat)] from rfl] at this;rw[this];simp only[cI,g_,JH,m6,iY h0,iY h1,yB h2,ic,mC];rfl
 ·have:=pB h ho hd menu (z:=3) (by decide);rw[show ((3:Nat):Int)=2+1 from rfl,show aY 0 (3+1)=[.int (0:Nat),.int (1:Nat),.int (2:Nat),.int (3:Nat)] from rfl] at this;rw[this];simp only[cI,g_,JH,m6,iY h0,iY h1,yB h2,ic,mC];rfl
theorem Tw (h:Cq n R)(ho:br n o)(hd:ds.length=4)(h0:ax 20 [gF R o,bN ds,menu,.int (0:Nat)]=.ok (.tup us)){i:Int}(i0:0<=i)(i1:i<100):cf [nW R ds o,menu,.int i]=.ok (.tup us):=by
 have:=pB h ho hd menu (z:=i.toNat) (by lia);rw[show ((i.toNat:Nat):Int)=i by lia,jo,adM,ZI] at this;rw[this];simp only[cI,JH,m6,yB h0,mC];rfl
end
theorem UK:(aay "end"==aay "end")=true/\(aay "mix"==aay "end")=false/\(aay "mix"==aay "mix")=true/\(aay "look"==aay "end")=false/\(aay "look"==aay "mix")=false/\(aay "look"==aay "look")=true:=by decide
theorem Cr (k:Nat):cV .S 4 (eL k)=bH k:=rfl
theorem Mj (e menu:U)(k:Nat):bH (k+1) [.tup [.str "end",e],menu]=.ok (.int 0):=by
 rw[bH,eL,Cr];simp only[Pzz,bO,Nat.reduceAdd,Nat.reduceSub,mK,UK,id_eq]
def Qz (x:U×U):U:=.tup [x.1,.tup [.str "end",x.2]]
theorem JI:∀{ws:List U},(∀w∈ws,∃s e,w=.tup [s,.tup [.str "end",e]])->∃xs:List (U×U),ws=xs.map Qz
 | [],_=>⟨[],rfl⟩
 |w::ws,h=>by
  obtain⟨s,e,rfl⟩:=h w ZG;obtain⟨xs,rfl⟩:=JI λz hz=>h z (ZK _ hz);exact⟨(s,e)::xs,rfl⟩
theorem N2 {α:Type}:∀xs:List α,vG 0 (xs.map λ_=>0)=0
 | []=>rfl
 |x::xs=>by
  rw[ZI];show vG (if (0:Int)>0 then 0 else 0) (xs.map λ_=>0)=0;rw[hV (by decide)];exact N2 xs
theorem JJ (h:Qt u)(menu:U)(k:Nat):bH (k+2) [u,menu]=.ok (.int 1):=by
 have sz:ZL=16777216:=rfl;obtain⟨p,ws,rfl,ne,ln,hw⟩:=h;obtain⟨xs,rfl⟩:=JI hw;rw[ZF] at ln;have sb:∀ρ,jB (.tup (xs.map Qz)) ρ=.ok (xs.map Qz,ρ):=λρ=>rfl;have Zd:∀ρ,jB (.lst (xs.map λx=>U.tup [.str "end",x.2])) ρ=.ok (xs.map (λx=>U.tup [.str "end",x.2]),ρ):=λρ=>rfl;have e1:=bI (f:=oE [none] (ba 0) cu (aU cC (ag 0) (gC (.int 1))) [some (.tup [.str "look",.tup [.int (p:Nat)],.tup (xs.map Qz)]),some menu,none,none]) (c:=Qz) (g:=λx=>U.tup [.str "end",x.2]) (xs:=xs) λx _=>by
  unfold Qz;simp only[Pzz,bO,Nat.reduceAdd,Nat.reduceSub]
 have e2:=bI (f:=oE [none,some 1] (ba 0) cu (fy 2 (bH (k+1)) (af (ag 0) (af (ag 1) au))) [some (.tup [.str "look",.tup [.int (p:Nat)],.tup (xs.map Qz)]),some menu,some (.lst (xs.map λx=>U.tup [.str "end",x.2])),none]) (c:=λx:U×U=>U.tup [.str "end",x.2]) (g:=λ_=>U.int 0) (xs:=xs) λx _=>by
  simp only[Pzz,bO,Nat.reduceAdd,Nat.reduceSub,Mj]
 have z1:(xs.map λx:U×U=>U.tup [.str "end",x.2]).length<=ZL:=by rw[ZF];lia
 have z2:(xs.map λ_:U×U=>U.int 0).length<=ZL:=by rw[ZF];lia
 have e3:AZ id .non (.lst (xs.map λ_:U×U=>U.int 0))=.ok (.bl false):=by
  rw[Tj (dx:=.non) (ds:=xs.map λ_=>.int 0) (by unfold kH;rfl) (mN (λ_=>by unfold kH;rfl) xs) (λd hd=>by
   obtain⟨_,_,rfl⟩:=ZO.mp hd;unfold eY;lia)]
  congr 2;rw[id_eq,List.any_map,List.any_eq_false];intro x _;show ¬jA (.int 0) .non=true;unfold jA;exact ZM
 have e4:wQ [.lst (xs.map λ_:U×U=>U.int 0)]=.ok (.int 0):=by
  have:xs.map (λ_:U×U=>U.int 0)=(xs.map λ_=>(0:Int)).map U.int:=by rw[ZY];rfl
  unfold wQ;dsimp only;rw[this,qp];cases xs with
  |nil=>exact absurd rfl ne
  |cons x xs=>
   rw[ZI];dsimp only;rw[N2]
 have l1:(1:Nat)<=ZL:=by decide
 have b1:(((1:Nat):Int)==1)=true:=by decide
 rw[bH,eL,Cr];simp only[Pzz,bO,Nat.reduceAdd,Nat.reduceSub,mK,eG,UK,id_eq,lM,b1,sb,e1,z1,Zd,e2,z2,e3,e4,Int.reduceAdd]
theorem Ml (r:List Int):kH (ah r)=some (.tup (r.map .int)):=by unfold ah kH;rw[mD];rfl
theorem Mm (r:List Int):eY (.tup (r.map .int))<=1:=by unfold eY;rw[t7];lia
def SD (ss:List (List Int)):L2.D:=.tup (ss.map λr=>.tup (r.map .int))
theorem JK (ss:List (List Int)):kH (SU ss)=some (SD ss):=by unfold SU kH;rw[mN Ml];rfl
theorem QA (ss:List (List Int)):eY (SD ss)<=2:=by
 unfold SD eY;have:=u7 Mm ss;lia
theorem Mn (h:ss∈ms):AZ id (SU ss) (.tup (ms.map SU))=.ok (.bl true):=by
 rw[Qq (dx:=SD ss) (ds:=ms.map SD) (JK ss) (mN JK ms) (λd hd=>by
  obtain⟨x,_,rfl⟩:=ZO.mp hd;have:=QA x;lia)]
 congr 2;exact ab7.mpr ⟨SD ss,ZO.mpr ⟨ss,h,rfl⟩,oq _⟩
theorem Mo (h:Qt u)(hi:ss∈ms):bH 20 [.tup [.str "mix",SU ss,u],.tup (ms.map SU)]=.ok (.int 2):=by
 have e:=JJ h (.tup (ms.map SU)) 17;have im:=Mn hi;have l1:(1:Nat)<=ZL:=by decide
 have sb:∀ρ,jB (.lst [u]) ρ=.ok ([u],ρ):=λρ=>rfl;have e2:AX (oE [none,some 1] (ba 0) cu (fy 2 (bH 19) (af (ag 0) (af (ag 1) au))) [some (.tup [.str "mix",SU ss,u]),some (.tup (ms.map SU)),some (.lst [u]),none]) [u]=.ok [.int 1]:=by
  have:=bI (f:=oE [none,some 1] (ba 0) cu (fy 2 (bH 19) (af (ag 0) (af (ag 1) au))) [some (.tup [.str "mix",SU ss,u]),some (.tup (ms.map SU)),some (.lst [u]),none]) (c:=id) (g:=λ_=>U.int 1) (xs:=[u]) λx hx=>by
   rw[Z1] at hx;subst hx;simp only[Pzz,bO,Nat.reduceAdd,Nat.reduceSub,id_eq,e]
  exact this
 have e3:AZ id .non (.lst [.int 1])=.ok (.bl false):=by kernel_rfl
 have e4:wQ [.lst [.int 1]]=.ok (.int 1):=by kernel_rfl
 rw[bH,eL,Cr];simp only[Pzz,bO,Nat.reduceAdd,Nat.reduceSub,mK,UK,id_eq,im,l1,sb,e2,e3,e4,Int.reduceAdd]
structure Cs (n:Nat)(R:List (List Int))(ds sh:List Int):Prop where
 r:Cq n R
 d:ds.length=4
 s:br n sh
 b0:∀c,c<n->yx (T0 R) c ds=false
 b1:∀c,c<n->FT (T0 R) c=true
 c0:∀c,c<n->yx (Tm (T0 R) [az n]) c ds=false
 c1:∀c,c<n->FT (Tm (T0 R) [az n]) c=true
 e0:∀c,c<n->yx (Tm (T0 R) [az n,sh]) c ds=false
 e1:∀c,c<n->FT (Tm (T0 R) [az n,sh]) c=true\/VE n ds (Tm (T0 R) [az n,sh]) c=true
 e2:∃c,c<n/\FT (Tm (T0 R) [az n,sh]) c=false
section
variable {R:List (List Int)}{sh:List Int}
theorem JL (h:Cq n R)(ho:br n o){lf:List Int->List Int}(l1:1<=ss.length)(l2:ss.length<=2)(hs:∀s∈ss,br n (lf s))(hl:∀s∈ss,∀t:List Int,t.length=n->aQ (aQ t o) (lf s)=aQ (aQ t s) o) :
  ∃D m,bB [gF R o,SU (ss.map lf)]=.ok (cG 4 D m)/\St n o D m (Tm (T0 R) ss):=by
 have S:=Tr h ho;have ml:(iX (F0 (iR R o))).length<=4:=by
  unfold iX;rw[ZF,(aM _).length_eq];have:=mL (F0 (iR R o));rw[Ju,AR h] at this;exact this
 have sf:Sf n (ss.map lf):=⟨h.n1,h.n8,(λo' Mx=>by
  obtain⟨s,yM,rfl⟩:=ZO.mp Mx;exact hs s yM),by rw[ZF];exact l1,by rw[ZF];lia⟩
 have hm:(ss.map lf).length*(iX (F0 (iR R o))).length<=60:=by
  rw[ZF];exact aaP (Nat.mul_le_mul l2 ml) (by decide)
 have mk:=Jt S.k sf hm;have ok:=Qg S.k sf hm (by rw[ZF];lia);refine⟨_,_,mk,ok,ho,h.n8,(S.r.flat (ss:=ss) (lf:=lf) (λs yM d hd t ht=>hl s yM t ?_) λz=>by rw[z] at l1;cases l1).res λx hx=>(sP S.k sf x hx).2,λd hd z=>?_⟩
 ·have:t=R.getD d []:=Z1.mp ht;rw[this];have ld:d<R.length:=by rw[h.l4];exact hd
  refine h.l _ ?_;rw[ZV,ZH ld];exact aau ld
 ·cases ss with
  |nil=>cases l1
  |cons s ss=>cases z
theorem X3 (h:Cq n R)(ho:br n o)(hs:br n sh):∃D m,bB [gF R o,SU ([az n,sh].map (eI o))]=.ok (cG 4 D m)/\St n o D m (Tm (T0 R) [az n,sh]):=by
 have two:∀s∈[az n,sh],br n s:=λs h2=>by
  simp only[ZX,acx,or_false] at h2;rcases h2 with rfl|rfl
  ·exact abj _
  ·exact hs
 exact JL h ho (Nat.le_succ 1) (ZS 2) (λs h2=>Mh (two s h2) ho) λs h2 t _=>Mi (two s h2) ho t
theorem X4 (h:Cq n R)(ho:br n o):∃D m,bB [gF R o,SU [az n]]=.ok (cG 4 D m)/\St n o D m (Tm (T0 R) [az n]):=by
 refine JL (ss:=[az n]) (lf:=id) h ho (ZS 1) (Nat.le_succ 1) (λs h2=>?_) λs h2 t ht=>?_
 ·rw[Z1.mp h2];exact abj _
 ·rw[Z1.mp h2];show aQ (aQ t o) (az n)=_;rw[yA (by unfold aQ;rw[ZF];exact fI ho),yA ht]
theorem VG (C:Cs n R ds sh)(ho:br n o)(menu:U):ax 20 [gF R o,bN ds,menu,.int (0:Nat)]=.ok .non:=L_ (sR (Tr C.r ho) C.d C.b0) 19
theorem VH (C:Cs n R ds sh)(ho:br n o)(menu:U):ax 20 [gF R o,bN ds,menu,.int (1:Nat)]=.ok .non:=AN (Tr C.r ho) C.d C.b0 C.b1 18 menu
theorem W2 (C:Cs n R ds sh)(ho:br n o)(menu:U):aO 19 [gF R o,SU [az n],bN ds,menu,.int 2]=.ok .non:=by
 obtain⟨D,m,e,S⟩:=X4 C.r ho;exact Mb e (AN S C.d C.c0 C.c1 16 menu)
theorem X5 (C:Cs n R ds sh)(ho:br n o)(menu:U):∃u,Qt u/\aO 19 [gF R o,SU ([az n,sh].map (eI o)),bN ds,menu,.int 2]=.ok (.tup [.str "mix",SU ([az n,sh].map (eI o)),u]):=by
 obtain⟨D,m,e,S⟩:=X3 C.r ho C.s;obtain⟨u,hu,e2⟩:=JF S C.d C.e0 C.e1 C.e2 15 menu;exact⟨u,hu,Mc e hu e2⟩
def yC (ms:List (List (List Int))):U:=.tup (ms.map SU)
theorem W3 (C:Cs n R ds sh)(ho:br n o)(ms:List U):∃o5,ax 20 [gF R o,bN ds,.tup ms,.int 2]=pY .S ((bY (ba 6) (FR (aO 19)) ms [some (gF R o),some (bN ds),some (.tup ms),some (.int 2),some .non,o5,none]).seq (bc (gC .non))):=Qv (Tr C.r ho) C.d C.b0 C.b1 18 ms
theorem VI {st L:U}{r:List U}(h:aO 19 [st,L,dU,menu,.int 2]=.ok (.tup us)):pY .S ((bY (ba 6) (FR (aO 19)) (L::r) [some st,some dU,some menu,some (.int 2),x4,x5,x6]).seq (bc (gC .non)))=.ok (.tup us):=by
 rw[cI,Tt,m6];show pY .S (((FR _ _).turn _).seq _)=_;rw[Mf h (x6:=none)];rfl
theorem W4 {st L:U}{r:List U}(h:aO 19 [st,L,dU,menu,.int 2]=.ok .non):bY (ba 6) (FR (aO 19)) (L::r) [some st,some dU,some menu,some (.int 2),x4,x5,x6]=bY (ba 6) (FR (aO 19)) r [some st,some dU,some menu,some (.int 2),some .non,x5,some L]:=by
 rw[cI,Tt,m6];show ((FR _ _).turn _)=_;rw[Me h (x6:=none)];rfl
theorem QB (C:Cs n R ds sh)(ho:br n o)(hm:ms=[[az n,sh].map (eI o)]\/ms=[[az n],[az n,sh].map (eI o)]\/ms=[[az n,sh].map (eI o),[az n]]) :
  ∃us:List U,bH 20 [.tup us,yC ms]=.ok (.int 2)/\(∀i:Int,0<=i->i<2->cf [nW R ds o,yC ms,.int (2+i)]=.ok (.tup us))/\cf [nW R ds o,yC ms,.int 1]=.ok .non:=by
 obtain⟨u,hu,e⟩:=X5 C ho (yC ms);have em:=W2 C ho (yC ms);have hi:[az n,sh].map (eI o)∈ms:=by
  rcases hm with rfl|rfl|rfl
  ·exact ZG
  ·exact ZK _ ZG
  ·exact ZG
 refine⟨[.str "mix",SU ([az n,sh].map (eI o)),u],Mo hu hi,λi i0 i1=>Tv C.r ho C.d (VG C ho _) (VH C ho _) ?_ i0 i1,Tu C.r ho C.d (VG C ho _) (VH C ho _)⟩;obtain⟨o5,q⟩:=W3 C ho (ms.map SU);refine q.trans ?_;show pY .S ((bY (ba 6) (FR (aO 19)) (ms.map SU) [some (gF R o),some (bN ds),some (yC ms),some (.int 2),some .non,o5,none]).seq (bc (gC .non)))=_;generalize yC ms=M at *;rcases hm with rfl|rfl|rfl
 ·exact VI e
 ·rw[ZI,W4 em];exact VI e
 ·exact VI e
theorem QC (C:Cs n R ds sh)(ho:br n o):cf [nW R ds o,yC [[az n]],.int 2]=.ok .non:=by
 have em:=W2 C ho (yC [[az n]]);refine Qy C.r ho C.d (VG C ho _) (VH C ho _) ?_;obtain⟨o5,q⟩:=W3 C ho [SU [az n]];refine q.trans ?_;have em:aO 19 [gF R o,SU [az n],bN ds,.tup [SU [az n]],.int 2]=.ok .non:=em;rw[W4 em];rfl
theorem yD (C:Cs n R ds sh)(ho:br n o)(hm:ms=[[az n,sh].map (eI o)]\/ms=[[az n],[az n,sh].map (eI o)]\/ms=[[az n,sh].map (eI o),[az n]]){s:U}(hs:A5 s){x7 x10:Option U} :
  ∃s' a10,A5 s'/\gQ [some s,x1,x2,x3,x4,x5,x6,x7,some (nW R ds o),some (yC ms),x10]=.nx [some s',x1,x2,x3,x4,x5,x6,x7,some (nW R ds o),some (yC ms),a10]:=by
 obtain⟨us,h1,h2,h3⟩:=QB C ho hm;obtain⟨r,s',e,r0,r1,hs'⟩:=yg hs (m:=2) (by decide) (by decide);have Ex:=h2 r r0 r1;have b2:((2:Int)==2)=true:=by decide
 refine⟨s',some (.tup us),hs',?_⟩;unfold gQ;simp only[Pzz,bO,Nat.reduceAdd,Nat.reduceSub,e,Ex,h1,h3,AM,vb,eG,b2,id_eq,aaz,abu]
theorem Es (C:Cs n R ds sh){pairs:U}(hp:gr [.int (n:Nat),pairs]=.ok (ah sh)){s:U}(hs:A5 s):∃s',A5 s'/\cc [s,.int (n:Nat),.lst (R.map ah),.lst (ds.map U.int),pairs]=.ok (.bl true,s'):=by
 have n8:=C.r.n8;obtain⟨o,s1,e1,ho,h1⟩:=Ay hs (m:=n) (by lia);have e1:cw [s,.int (n:Nat)]=.ok (ah o,s1):=e1;have rt:∀ρ,Dz [.int (n:Nat)] ρ=.ok (ah (az n),ρ):=λρ=>by rw[Ld n (by lia),lP];rfl
 have two:∀s∈[az n,sh],br n s:=λs h2=>by
  simp only[ZX,acx,or_false] at h2;rcases h2 with rfl|rfl
  ·exact abj _
  ·exact C.s
 have le:=Qx n8 (ss:=[az n,sh]) (show 2<=24 by decide) two ho;have le:gP [ah o,.tup [ah (az n),ah sh]]=.ok (SU ([az n,sh].map (eI o))):=le;have de:=AQ n8 C.r.l C.r.l4 (ds:=ds) ho;obtain⟨s2,a,h2,t1⟩:=yD C ho (.inl rfl) h1 (x1:=some (.int (n:Nat))) (x2:=some (.lst (R.map ah))) (x3:=some (.lst (ds.map U.int))) (x4:=some pairs) (x5:=some (ah o)) (x6:=some (ah (az n))) (x7:=some (SU ([az n,sh].map (eI o)))) (x10:=none);obtain⟨s3,b,h3,t2⟩:=yD C ho (.inr (.inl rfl)) h2 (x1:=some (.int (n:Nat))) (x2:=some (.lst (R.map ah))) (x3:=some (.lst (ds.map U.int))) (x4:=some pairs) (x5:=some (ah o)) (x6:=some (ah (az n))) (x7:=some (SU ([az n,sh].map (eI o)))) (x10:=a);obtain⟨s4,c,h4,t3⟩:=yD C ho (.inr (.inr rfl)) h3 (x1:=some (.int (n:Nat))) (x2:=some (.lst (R.map ah))) (x3:=some (.lst (ds.map U.int))) (x4:=some pairs) (x5:=some (ah o)) (x6:=some (ah (az n))) (x7:=some (SU ([az n,sh].map (eI o)))) (x10:=b);have tn:=QC C ho;have m1:U.tup [SU ([az n,sh].map (eI o))]=yC [[az n,sh].map (eI o)]:=rfl;have m2:U.tup [U.tup [ah (az n)],SU ([az n,sh].map (eI o))]=yC [[az n],[az n,sh].map (eI o)]:=rfl;have m3:U.tup [SU ([az n,sh].map (eI o)),U.tup [ah (az n)]]=yC [[az n,sh].map (eI o),[az n]]:=rfl;have m4:U.tup [U.tup [ah (az n)]]=yC [[az n]]:=rfl;have l1:(1:Nat)<=ZL:=by decide
 have l2:(2:Nat)<=ZL:=by decide
 have l3:(3:Nat)<=ZL:=by decide
 have sb:∀(us:List U) ρ,jB (.lst us) ρ=.ok (us,ρ):=λus ρ=>rfl;generalize SU ([az n,sh].map (eI o))=L at *;generalize yC [[az n,sh].map (eI o)]=M1 at *;generalize yC [[az n],[az n,sh].map (eI o)]=M2 at *;generalize yC [[az n,sh].map (eI o),[az n]]=M3 at *;generalize yC [[az n]]=M4 at *;refine⟨s4,h4,?_⟩;unfold cc iI;simp only[Pzz,bO,Nat.reduceAdd,Nat.reduceSub,e1,rt,hp,le,de,l1,l2,l3,m1,m2,m3,m4,sb,cI,g_,t1,t2,t3,ic,tn,vb,id_eq]
end
def R4:List (List Int):=[[0,1,0,1],[0,1,1,0],[1,0,0,1],[1,0,1,0]]
def R6:List (List Int):=[[0,1,0,1,0,1],[0,1,1,0,0,1],[1,0,0,1,0,1],[1,0,1,0,0,1]]
theorem Tx:Cq 4 R4:=⟨by decide,by decide,by decide+kernel,by decide+kernel⟩
theorem X6:Cq 6 R6:=⟨by decide,by decide,by decide+kernel,by decide+kernel⟩
theorem X7:Cs 4 R4 [0,1,1,0] [1,0,3,2]:=⟨Tx,rfl,by unfold br;decide+kernel,by decide+kernel,by decide+kernel,by decide+kernel,by decide+kernel,by decide+kernel,by decide+kernel,0,by decide,by decide+kernel⟩
theorem X8:Cs 6 R6 [0,0,0,1] [1,0,4,5,2,3]:=⟨X6,rfl,by unfold br;decide+kernel,by decide+kernel,by decide+kernel,by decide+kernel,by decide+kernel,by decide+kernel,by decide+kernel,0,by decide,by decide+kernel⟩
theorem Et (ho:br 4 o)(hd:ds.length=4)(hg:Qu 4 ds (T0 R4)=true){s:U}(hs:A5 s) :
  ∃s' a5,A5 s'/\iJ [some s,some (.lst (R4.map ah)),some (ah o),x3,some (.lst (ds.map U.int)),x5]=.nx [some s',some (.lst (R4.map ah)),some (ah o),x3,some (.lst (ds.map U.int)),a5]:=by
 obtain⟨r,s',e,r0,r1,hs'⟩:=yg hs (m:=4) (by decide) (by decide);have de:=AQ (n:=4) (by decide) Tx.l Tx.l4 (ds:=ds) ho;obtain⟨en,ee⟩:=Ep (Tr Tx ho) hd hg;have fe:=Tw Tx ho hd (menu:=.tup [.tup [ah o]]) (JE ee 19) r0 (by lia);have l1:(1:Nat)<=ZL:=by decide
 refine⟨s',some (.tup [.str "end",en]),hs',?_⟩;generalize R4.map ah=rs at *;unfold iJ;simp only[Pzz,bO,Nat.reduceAdd,Nat.reduceSub,de,e,l1,fe,AM,mK,UK,id_eq,aaz]
theorem N3 (ho:br 4 o){d1 d2:List Int}(l1:d1.length=4)(l2:d2.length=4)(g1:Qu 4 d1 (T0 R4)=true)(g2:Qu 4 d2 (T0 R4)=true){s:U}(hs:A5 s)(e1:AX (oE [none,some 3] (ba 0) cu (aU cC (ag 0) (aU gH (gC (.int 2)) (ag 1))) [some s,some (.lst (R4.map ah)),some (ah o),some (.int (k:Nat)),x4,x5]) (R4.map ah)=.ok (d1.map U.int))(e2:AX (oE [none,some 3] (ba 0) cu (aU cC (ag 0) (aU jR (aU gH (gC (.int 2)) (ag 1)) (gC (.int 1)))) [some s,some (.lst (R4.map ah)),some (ah o),some (.int (k:Nat)),x4,x5]) (R4.map ah)=.ok (d2.map U.int)) :
  ∃s' a4 a5,A5 s'/\iK [some s,some (.lst (R4.map ah)),some (ah o),some (.int (k:Nat)),x4,x5]=.nx [some s',some (.lst (R4.map ah)),some (ah o),some (.int (k:Nat)),a4,a5]:=by
 have sz:ZL=16777216:=rfl;obtain⟨s1,a5,h1,t1⟩:=Et ho l1 g1 hs (x3:=some (.int (k:Nat))) (x5:=x5);obtain⟨s2,b5,h2,t2⟩:=Et ho l2 g2 h1 (x3:=some (.int (k:Nat))) (x5:=a5);have z1:(d1.map U.int).length<=ZL:=by rw[ZF];lia
 have z2:(d2.map U.int).length<=ZL:=by rw[ZF];lia
 have lt:(2:Nat)<=ZL:=by decide
 have sb:∀(us:List U) ρ,jB (.lst us) ρ=.ok (us,ρ):=λus ρ=>rfl;refine⟨s2,some (.lst (d2.map U.int)),b5,h2,?_⟩;generalize R4.map ah=rs at *;unfold iK;simp only[Pzz,bO,Nat.reduceAdd,Nat.reduceSub,sb,e1,z1,e2,z2,lt,cI,g_,t1,t2,ic]
theorem Tz {s:U}(hs:A5 s):∃s',A5 s'/\gu [s,.lst (R4.map ah)]=.ok (.bl true,s'):=by
 obtain⟨o,s1,e1,ho,h1⟩:=Ay hs (m:=4) (by decide);have e1:cw [s,.int 4]=.ok (ah o,s1):=e1;obtain⟨s2,a4,a5,h2,t1⟩:=N3 ho (k:=0) (d1:=[0,0,1,1]) (d2:=[1,1,0,0]) rfl rfl (by decide+kernel) (by decide+kernel) h1 (x4:=none) (x5:=none) (by kernel_rfl) (by kernel_rfl);obtain⟨s3,b4,b5,h3,t2⟩:=N3 ho (k:=1) (d1:=[0,1,0,1]) (d2:=[1,0,1,0]) rfl rfl (by decide+kernel) (by decide+kernel) h2 (x4:=a4) (x5:=a5) (by kernel_rfl) (by kernel_rfl);have rg:∀ρ,tZ [.int 2] ρ=.ok ([.int (0:Nat),.int (1:Nat)],ρ):=λρ=>jW 2 (by decide);refine⟨s3,h3,?_⟩;generalize R4.map ah=rs at *;unfold gu jj;simp only[Pzz,bO,Nat.reduceAdd,Nat.reduceSub,e1,rg,cI,g_,t1,t2,ic]
theorem TB:∃a2:Option U,xZ [some (.scr (ns.map .int)),some (.int i),x2]=.nx [some (.scr (ns.map .int)),some (.int i),a2]:=by
 obtain⟨s0,e0,h0⟩:=Jd (us:=[]) (u:=.scr (ns.map .int)) (k:=i) (.inl rfl) (by lia);obtain⟨s1,h1,t1⟩:=Es X7 (pairs:=.lst [.tup [.int 0,.int 1],.tup [.int 2,.int 3]]) (by kernel_rfl) h0;obtain⟨s2,h2,t2⟩:=Es X8 (pairs:=.lst [.tup [.int 0,.int 1],.tup [.int 4,.int 2],.tup [.int 5,.int 3]]) (by kernel_rfl) h1;obtain⟨s3,h3,t3⟩:=Tz h2;have r4:fU [.tup []]=.ok (.lst (R4.map ah)):=by kernel_rfl
 have r6:fU [.tup [.int 0,.int 1]]=.ok (.lst (R6.map ah)):=by kernel_rfl
 have t1:cc [s0,.int 4,.lst (R4.map ah),.lst [.int 0,.int 1,.int 1,.int 0],.lst [.tup [.int 0,.int 1],.tup [.int 2,.int 3]]]=.ok (.bl true,s1):=t1;have t2:cc [s1,.int 6,.lst (R6.map ah),.lst [.int 0,.int 0,.int 0,.int 1],.lst [.tup [.int 0,.int 1],.tup [.int 4,.int 2],.tup [.int 5,.int 3]]]=.ok (.bl true,s2):=t2;have ls:(0:Nat)<=ZL/\(2:Nat)<=ZL/\(3:Nat)<=ZL/\(4:Nat)<=ZL:=by decide
 generalize R4.map ah=rs at *;generalize R6.map ah=rs6 at *;refine⟨some s3,?_⟩;unfold xZ;simp only[Pzz,bO,Nat.reduceAdd,Nat.reduceSub,e0,r4,r6,ls,t1,t2,t3,aaz]
theorem pure_law (ns:List Int)(hl:ns.length<=63):Aj [.scr (ns.map .int)]=.ok (.bl true):=by
 obtain⟨z,hz⟩:∃z:Nat,(if (if (2:Int)<(((ns.map U.int).length:Nat):Int) then 2 else (((ns.map U.int).length:Nat):Int))>1 then (if (2:Int)<(((ns.map U.int).length:Nat):Int) then 2 else (((ns.map U.int).length:Nat):Int)) else 1)=z:=⟨(if (if (2:Int)<(((ns.map U.int).length:Nat):Int) then 2 else (((ns.map U.int).length:Nat):Int))>1 then (if (2:Int)<(((ns.map U.int).length:Nat):Int) then 2 else (((ns.map U.int).length:Nat):Int)) else 1).toNat,by split<;>(try split)<;>lia⟩;have zb:z<=1000:=by split at hz<;>(try split at hz)<;>lia
 obtain⟨ρ',e,a1,a2,rfl⟩:=cZ (us:=aY 0 z) (sg:=ba 1) (s:=xZ) (λ_ ρ=>∃a1 a2:Option U,ρ=[some (.scr (ns.map .int)),a1,a2])
  (λi u ρ hu h00=>by
   obtain⟨a1,a2,hr⟩:=h00;subst hr;have hi:i<z:=by
    rcases acL i z with y|y
    ·exact y
    ·rw[aaY.mpr (by rw[fK];exact y)] at hu;cases hu
   obtain rfl:u=.int i:=by
    rw[lP] at hu;unfold az at hu;rw[ZY,ZT,aaT hi] at hu;cases hu;rfl
   obtain⟨b2,q⟩:=TB (ns:=ns) (i:=i) (x2:=a2);exact⟨_,_,rfl,.inl q,_,_,rfl⟩)
  (ρ:=[some (.scr (ns.map .int)),none,none]) ⟨_,_,rfl⟩
 unfold Aj IT;simp only[Pzz,bO,Nat.reduceAdd,Nat.reduceSub,hz,jW z (by lia),e]
theorem walk {d:DefRec}{K:Params->ZN}(TM:d.params.defaults=[])(hY:∀(w:acs) (h:acz),YP w h->(K w.params).In h)(F:∀(w:acs) (mg:Str->Option ZR) (fa:Z_) (h:acz),(K w.params).In h->h.Ns aaF mg->mg d.name=some (.ref fa)->
   ∃fd:aeh,(∀(s:Z5) (u:ZR),BindsTo s fd ⟨[u],[]⟩ [("script",u)])/\∀base:acz,(K w.params).In base->base.Ns aaF mg->mP PySem.Challenge.rw_hushcards_k73_known_least_ones.prog w (K w.params) mg base yY 30 fa fd ["script"] (zj (K w.params))) :
  PySem.W.WalkO q loose XP YP PySem.Challenge.rw_hushcards_k73_known_least_ones.row.toRowW d [] (λf vs=>PySem.call f vs):=
 L2.walk_of (l:=PySem.Challenge.rw_hushcards_k73_known_least_ones) (n:=63) (k:=30) (x:="script") (CX:=λ_=>yY) (sp:=λw=>zj (K w.params)) rfl (by decide) TM ⟨rfl,by decide,by decide⟩ hY F (λ_ _ a ns hl hO hS=>⟨a,ns,rfl,O5 hO hS,hl,λ_=>rfl⟩) λ_ _ _ _ _ z=>z
end Hc
open PySem PySem.W PyProof.Rows
set_option maxRecDepth 100000 in
set_option maxHeartbeats 0 in
theorem PySem.Challenge.cw_hushcards_k73_known_least_ones_holds : PySem.Challenge.rw_hushcards_k73_known_least_ones.Holds := by
 w_on
 refine PySem.W.holds_law (by decide+kernel) λWn=>?_;refine' PySem.W.holds_open Hc.left (PySem.W.Hook.of _) (PySem.W.Hook.keeps _) (XP:=PySem.W.XL Hc.vw [])
  (λs e=>PySem.W.xl_of s (Bool.and_eq_true_iff.mp e).1) PySem.W.XL.keeps ?d ?t ?k
  (λs e=>PySem.W.recFacts_of (Bool.and_eq_true_iff.mp e).2) ?w Wn ?g ⟨rfl,rfl,rfl,rfl,rfl,by decide+kernel⟩ ?hw ?hc
 case d=>rfl
 case t=>rfl
 case k=>rfl
 case w=>rfl
 case g=>decide+kernel
 case hw=>w_witness2
 show PySem.W.WalkO Hc.vw [] (PySem.W.XL Hc.vw []) (PySem.W.InK Hc.Kf) _ _ _ _
 k_fill
 refine Hc.walk rfl (λw h Y=>Y) ?F
 case F=>
  intro w mg fa h KX G TN;refine' Hc.all_mk KX G TN ?_ ?_ ?_ ?_ ?_ ?_ ?_ ?_ ?_ ?_ ?_ ?_ ?_ ?_ ?_ ?_ ?_ ?_ ?_ ?_ ?_ ?_ ?_ ?_ ?_ ?_ ?_ ?_ ?_ ?_ ?_ ?_ ?_ ?_ ?_ ?_ ?_ ?_ ?_ ?_ ?_ ?_ ?_ ?_ ?_ ?_ ?_ Hc.pure_law
  all_goals first|k_is|exact .mk (by k_is) (by k_is) (by k_is) (by k_is)|skip