import PyProof.Rows.All
import Wide.All
import OpenK.AllK
import Wide.FinOn
import Lean
import PyProof.EqAt
import PyProof.EqKinds
import PyProof.TupleCall
import PyProof.NeKinds
import PyProof.TupleKey
import PyProof.DictRoadsH
import PySem.SetTable
import PyProof.SetRoads
import PyProof.DictKeyH
import PyProof.IsRules
import PyProof.Rows.SetFrom
import PyProof.WalksMore
import PyProof.ListMulRoad
import PyProof.FactsAll.subtypes_4
import PyProof.Rows.ListMulArg
import PyProof.ZipIter
import PyProof.WalksEnum
import PyProof.EnumMake
import PyProof.DictItems
import PyProof.DictValues
import PyProof.DictWalks
import PyProof.FactsAll.dict_itemiterator
import PyProof.Rows.SortShell
import PyProof.Rows.SortWalk
import KE.KSortTup
import KE.KDictList
import PyProof.AutoListH
import PyProof.SumWalk
import PyProof.WalkInts
import KE.KRevSl
import PySem.Challenge.RW_hushcards_k75_whole_laid_otherwise
noncomputable section
abbrev hG:=@decide_eq_true
abbrev hJ:=@decide_eq_false
abbrev hV.{u}:=@if_neg.{u}
abbrev hZ.{u}:=@if_pos.{u}
set_option Elab.async false
set_option linter.all false
set_option compiler.extract_closed false
set_option genSizeOf false
set_option bootstrap.genMatcherCode false
set_option maxRecDepth 100000
set_option maxHeartbeats 4000000
open List renaming length_map->aaa,getElem?_eq_getElem->aad,mem_cons_self->aae,getD_eq_getElem?_getD->aag,mem_cons_of_mem->aai,map_cons->aal,mem_map->aan,getElem?_eq_some_iff->aap,getElem?_map->aar,map_map->aat,mem_singleton->aau,map_congr_left->aav,length_cons->aaw,range->aax,length_append->aay,size_toArray->aaz,mem_cons->aaA,map_append->aaD,mem_range->aaH,length_range->aaJ,all_eq_true->aaK,mem_append_right->aaM,take_succ_eq_append_getElem->aaO,mem_append->aaQ,sum_cons->aaS,getElem_mem->aaU,getElem?_set_ne->aaV,length_take->aa2,getElem?_eq_none_iff->aa9,replicate->aa_,nodup_cons->abe,getElem?_range->abh,mem_map_of_mem->abi,take_length->abj,mem_append_left->abn,zipWith_cons_cons->abp,mem_of_getElem?->abq,length_set->abu,drop_eq_getElem_cons->abv,lookup_cons->aby,mem_flatMap->abz,pairwise_singleton->abE,append_nil->abG,length_nil->abH,getElem?_set_self->abK,nodup_append->abO,flatMap_cons->abR,mem_filter->abX,getElem?_append_left->abZ,nodup_nil->ab1,getElem?_cons_succ->ab9,pairwise_cons->ab_,length_drop->acd,getElem?_append_right->ace,append_assoc->acg,pairwise_map->ach,length_singleton->acj,zipWith->ack,eq_nil_of_length_eq_zero->acs,mem_of_mem_take->acw,filterMap_cons->acB,cons_append->acI,not_mem_nil->acJ,getElem_map->acK,length_replicate->acM,ext_getElem?->acU,find?_cons->acV,all_cons->ac3,length_reverse->ac4,mem_nil_iff->ac6,drop_length->ac8,range_succ_eq_map->adg,drop_of_length_le->adi,getElem_range->adj,of_mem_zip->adm,nil_append->adq,take_append_drop->adw,length_zip->adB,map_id->adC,mem_iff_getElem->adL,exists_mem_of_ne_nil->adV,any_eq_true->adW,nodup_range->adX,ext_getElem->adZ,filter_cons->ad0,length_zipWith->ad1,map_nil->ad7,getElem?_replicate->aee,forIn_cons->aej,take_of_length_le->aeq,length_pos_of_mem->aet,length->aev,reverse_cons->aeE,drop_zero->aeH,length_filter_le->aeT,foldl_cons->afe,sum_append->afi,length_pos_iff->afk,perm_ext_iff_of_nodup->afn,mem_filterMap->afr,zip_cons_cons->afC,pairwise_iff_getElem->afF,getElem?_take_of_lt->afK,filterMap_cons_some->afP,foldl_append->afR,filter_congr->afU,Nodup->afZ
open PySem renaming wpAny_bind->aab,sizeLine->aaf,wpAny_pure->aah,Value->aao,Shared->aaE,Addr->aaL,starEach->aaN,wpAny->aaT,model->aaX,wpAny_call_entry->aa4,mem_of_lookup->aa5,wpAny_callSpecial?_slot->aa7,wpAny_newObj_type->abc,Around->abd,mainGlobals->abg,bootBuiltins->abk,wpAny_mono->abr,wpAny_holding->abx,wpAny_field->abD,wpAny_setState_of->abI,wpAny_setField_rec->abL,compareOp->abM,cLine->abW,foldedSetIterable->ab3,Expr->ab6,sysModules->acf,wpAny_typeNameOfWhole_itemiter->acn,sizeLine_eq->acq,wpAny_askSetting->acr,wpAny_typeNameOfWhole_keyiter->acu,backTo->acy,cellsFrom->acC,codeAny_builtin->acD,wpAny_attempt->acN,wpAny_setField->acP,binaryOp->acQ,assignEach->acR,wpAny_passesOwn->acS,wpAny_dictEntries->acY,World->ac2,Heap->ac5,wpAny_isInstance->ac7,call_meets->adb,Program->adf,wpAny_specialOf->ado,wpAny_of_eq->adx,wpAny_dictEpoch->adA,wpAny_truthy_bool->adE,behindInMarks->adG,attributeBase->adH,wpAny_pyIter_slot->adJ,eval->adM,Stmt->adN,swapsWith->adO,wpAny_binaryOp_repeat_ref->adS,wpAny_fieldsOf->adT,wpAny_typeOf->ad5,SetTable->ad_,wpAny_pyIter_tuple->aeb,Keyword->aed,tupleKind_room_in1->aeh,HeapKind->aek,wpAny_isOneOf_itemiter->aes,wpAny_pyIter_list->aeu,getItem->aew,sliceBounds->aex,keywordEach->aey,codeAny_mono->aeK,DictEntry->aeM,wpAny_eqBool_int->aeU,start->aeV,FuncData->ae2,Scope->ae3,wpAny_standAt->ae4,swapsWithSole->ae5,swappedStores->ae6,wpAny_rule->ae9,typeIs_int->ae_,IsItemIter->afa,wpAny_execs_nil->afb,wpAny_setEntries_of->afh,wpAny_Call_Name_kw->aft,NameKind->afu,firstArgMember->afG,isSubtype_stop->afH,Paired->afJ,wpAny_sequenceKey->afL,seqIndex?->afM,wpAny_collect_seq->afN,PassesOwn->afX,pickOrder->afY
open PySem.Heap renaming get?_push_of_some->aak,get?_push_size->aas,lt_size->aaF,size_push->ab7,get?_update_self->aci,SameBut->acL,ExtBut->afg
open PySem.W renaming Frag->aam,mg_none_of->abf,nsIn->abV,kia_one->abY,fnOf->acb,keepIn->ada,findIn->adP,codeIn->afD
open Nat renaming le_refl->aaq,ne_of_lt->aaW,lt_of_lt_of_le->aaZ,le_trans->abl,zero_add->abw,lt_irrefl->abC,mul_comm->abN,mul_assoc->abP,zero_le->abU,lt_of_le_of_lt->ab8,lt_or_ge->acz,le_of_lt_succ->acA,lt_succ_of_lt->acT,mod_lt->acW,ne_of_gt->acZ,pow_succ->ac0,gcd->adh,lt_trans->adn,succ_pos->adt,mul_left_comm->aeA,le_of_lt->aeJ,min_self->aeL,lt_succ_self->aeX,add_comm->afz,lt_trichotomy->afO,gcd_pos_of_pos_right->afT
open Bool renaming false_ne_true->aaB,and_eq_true->aaC,eq_iff_iff->abo,or_eq_false_iff->abJ,not_eq_true->ac_,or_eq_true->ads,eq_false_iff->adI,and_false->aeG,false_eq_true->afA,not_eq_true'->afV
open Option.some renaming inj->aaP
open Array renaming getElem?_eq_getElem->aaR,length_toList->aaY,getElem?_toList->aa0,getElem?_eq_some_iff->abm,getElem?_eq_none->acE,perm_iff_toList_perm->adK,forIn_toList->afy
open PySem.PassesOwn renaming never->aa1
open PySem.F renaming plainAttrs_list->aa8,slot_list_append->aba,type_list_append->abb,slot_int_rmul->acm,slot_dict_itemiterator_next->acv,slot_dict_keyiterator_next->acx,slot_tuple_iterator_next->acH,slot_dict_get->adp,slot_enumerate_next->adz,args_tuple_add_2->ad4,entry_tuple_add->aef,args_dict_get_3->aei,args_int_rmul_2->ael,slot_tuple_add->aen,entry_dict_get->aep,entry_int_rmul->aer,args_dict_itemiterator_next_1->aeC,fills_int_mul->aeO,args_dict_keyiterator_next_1->aeQ,entry_dict_itemiterator_next->aeR,entry_dict_keyiterator_next->aeZ,slot_dict_itemiterator_iter->ae0,args_tuple_iterator_next_1->ae7,entry_tuple_iterator_next->aff,args_tuple_mul_2->afQ,slot_tuple_index->afS,slot_tuple_mul->afW
open Int renaming toNat_natCast->abt,mul_assoc->abS,emod_lt_of_pos->adk,emod_nonneg->adD,mul_nonneg->adU,mul_comm->ad8,le_refl->aeF,mul_pos->afj,eq_of_mul_eq_mul_right->afp,zero_add->afB
open PyProof.Rows renaming slot_tuple_getitem->abA,wpS_bind->abQ,arrOf->abT,SortSt->ab4,wpS_pure->acF,pendingOf->ac9,callWith_type1->adl,kindOf->ad3,Keyed->ad9,IntsAre->aeg,pairsOf_toList->aeI,wpS_forRange->aeS,reverseSlice'->ae8,entry_tuple_getitem->afc,assignInOrder_cons->afq,envOfC->afv,args_tuple_getitem->afw
open List.Perm renaming refl->abB,append_left->aeN
open PySem.Heap.SameBut renaming update->abF
open PySem.Builtin.Slice renaming slicePlaces->ab0,sliceAdjust->adQ,sliceApplied->afm
open Classical renaming byContradiction->ab2,choose_spec->adu,choose->aeY
open PySem.Str renaming ofString->ab5
open PySem.Obj renaming data_mapFields->aca,isFreed_of_fields->ady,cls_mapFields->aeB
open PyProof.Rows.KeyOrd renaming kle_refl->aco,kle_trans->adY,kle_of_klt->aeD
open PySem.AutoSeq1 renaming wpAny_loadPart'->acp
open PySem.Builtin.Tuple renaming tupleItemsOf->acG,tupleHashOf->adR,tupleTooMany->afo
open PySem.Builtin.SmallTypes renaming nextOf->acO
open List.Pairwise renaming imp_of_mem->acX
open List.Nodup renaming length_le_of_subset->ac1
open PySem.SeqAt renaming EqAt->ade,RcNeAt->af0
open False renaming elim->adF
open PySem.Builtin.Dict_items renaming ownedTupleFields->ad2
open PySem.Builtin.List renaming listTooLong->ad6
open PySem.Paired renaming length->aea
open PySem.Builtin.Range renaming rangeSize->aec
open Nat.Coprime renaming dvd_of_dvd_mul_right->aem
open PySem.Calls renaming callWith_builtin->aeo,Name_function_global->afl,spliced_cons->afs,call_function_entry->afE
open Option renaming isSome_map->aez,getD_none->aeW,getD_some->ae1
open PySem.Builtin.Dict renaming showsAll->aeP
open PySem.SeqAt.EqAt renaming same->afd,of_refs->afx
open Iff renaming rfl->afI
open PySem PySem.Spec PyProof.Rows
variable {a b it f sl:aaL}{o g ns:List Int}{P q prog:adf}{w:ac2}{h h':ac5}{t' i j c k n p d m z mask kt ep nd:Nat}{ch fp L L':List aaL}{x qual:Str}{N ps Ρ:List Str}{M:Model}{A:aaL->Prop}{E Q:aao->aaE->Prop}{t:ad_}{s:aaE}{ċ:List (aaL×Obj)}{K:aam}{st:adN}{tg iter Μ:ab6}{body:List adN}{l:Bool}{hi:Option Int}{op:CmpOp}{C:Nat->Option (Int×aao)}{mg:Str->Option aao}{fd:ae2}{scope:ae3}{az:List aao}{T:String}{XP:(Str->Option aao)->ac5->Prop}{YP:ac2->ac5->Prop}{env:Env}{wW Τ:List ab6}{js:List (Option Nat)}{tp:Pos}{ss γ δ:List (List Int)}{lf:List Int->List Int}{ms:List (List (List Int))}
def zyy {a b:Prop}(x:a)(y:b):a∧b:=⟨x,y⟩
namespace L2
noncomputable def gE (s:adN):Arguments:=match s with
 | .FunctionDef _ a _ _ _ _ _ _ _ _=>a
 |_=>{posonlyargs:=[],args:=[],vararg:=none,kwonlyargs:=[],kw_defaults:=[],kwarg:=none,defaults:=[]}
def c_ (s:adN):List adN:=match s with
 | .FunctionDef _ _ b _ _ _ _ _ _ _=>b
 |_=>[]
noncomputable def ao (s:adN):ae3:=match s with
 | .FunctionDef _ _ _ _ _ _ sc _ _ _=>sc
 |_=>{kind:=.function,names:=[],isGenerator:=false,isCoroutine:=false}
end L2
namespace Hc
open L2
noncomputable def top (i:Nat):adN:=PySem.Challenge.pw_hushcards_k75_whole_laid_otherwise.main.body.getD i (.Pass ⟨0,0,0,0⟩)
abbrev hS (s:String)(n:Nat):aao:=.str (ab5 s) n
abbrev hE (P:Params)(s:String)(n:Nat)(v:aao):aeM:=⟨PyData.keyHash P (ab5 s),hS s n,v⟩
abbrev hD (c:aao)(l:List aeM)(n:Nat):Obj:=⟨c,none,.dict l.toArray n,#[]⟩
abbrev hX (c:aao)(l:List aao):Obj:=⟨c,none,.fields l.toArray,#[]⟩
abbrev hC (n q:String)(a:Nat)(l k:Int)(r r1:Nat)(v1 v2:aao)(r2:Nat)(m:Int)(m':Nat):Obj:=hX (.type "code") [hS n a,hS q (a+1),hS "/claim/cut.py" (a+2),.int l 0,.int k 0,.int 0 0,.int 0 0,.int 3 0,.ref r,.bool true,.int 181 0,.ref r1,.none,v1,v2,.ref r2,.int m 0,.int l 0,hS "/claim/cut.py" m']
abbrev hF (n q:String)(s:adN)(kV qk pm:aao)(an:Option aaL)(cd ct:aao):Obj:=⟨.type "function",none,.func (acb n q (gE s) (c_ s) (ao s) .none kV qk pm an cd ct),#[]⟩
abbrev h9:=hS "law_hushcards_k75_whole_laid_otherwise"
def Kf (P:Params):aam:=
 (nat_lit 2,hD .none [] 0) ::
 (nat_lit 3,hD (.type "dict") [hE P "__name__" 165 (h9 422),hE P "__doc__" 166 .none,hE P "__package__" 167 .none,hE P "__loader__" 168 (.builtin "__main__.__loader__#opaque"),hE P "__spec__" 169 .none,hE P "__annotations__" 170 (.ref 6),hE P "__builtins__" 171 (.ref 4),hE P "__file__" 173 (hS "/claim/cut.py" 172),hE P "__cached__" 174 .none,hE P "greatest_divisor" 197 (.ref 21),hE P "ratio" 206 (.ref 28),hE P "plus" 214 (.ref 35),hE P "total" 223 (.ref 42),hE P "common_bottom" 232 (.ref 49),hE P "own" 240 (.ref 54),hE P "cards_at" 246 (.ref 59),hE P "laid" 252 (.ref 64),hE P "then" 260 (.ref 71),hE P "back" 266 (.ref 76),hE P "counted" 277 (.ref 83),hE P "spread" 291 (.ref 90),hE P "whole_weights" 299 (.ref 95),hE P "state_of" 305 (.ref 100),hE P "begun" 311 (.ref 105),hE P "deal_numbers" 318 (.ref 112),hE P "mixed_state" 329 (.ref 119),hE P "looked_state" 335 (.ref 124),hE P "sums_of" 341 (.ref 129),hE P "is_quiet_look" 347 (.ref 134),hE P "depth_in" 355 (.ref 139),hE P "cards_told" 368 (.ref 146),hE P "right_end" 374 (.ref 151),hE P "look_within" 390 (.ref 158),hE P "mix_within" 402 (.ref 165),hE P "plan_within" 415 (.ref 172),hE P "fewest" 421 (.ref 177),hE P "_law_cell_at" 431 (.ref 184),hE P "_law_state" 440 (.ref 191),hE P "_law_take" 450 (.ref 198),hE P "_law_order" 456 (.ref 203),hE P "_law_menu_of" 462 (.ref 208),hE P "_law_crossed" 475 (.ref 215),hE P "_law_deals_of" 481 (.ref 220),hE P "_law_depth_told" 491 (.ref 227),hE P "_law_alike" 497 (.ref 232),hE P "law" 509 (.ref 239)] 46) ::
 (nat_lit 20,hC "greatest_divisor" "greatest_divisor" 189 2 2 15 16 (.ref 17) (.ref 18) 19 195 196) ::
 (nat_lit 21,hF "greatest_divisor" "greatest_divisor" (top 1) .none .none (hS "hushcards.fractions" 187) none (.ref 20) .none) ::
 (nat_lit 27,hC "ratio" "ratio" 198 10 2 22 23 (.ref 24) (.ref 25) 26 204 205) ::
 (nat_lit 28,hF "ratio" "ratio" (top 2) .none .none (hS "hushcards.fractions" 187) none (.ref 27) .none) ::
 (nat_lit 34,hC "plus" "plus" 207 15 2 29 30 (.ref 31) (.ref 32) 33 212 213) ::
 (nat_lit 35,hF "plus" "plus" (top 3) .none .none (hS "hushcards.fractions" 187) none (.ref 34) .none) ::
 (nat_lit 41,hC "total" "total" 215 17 1 36 37 (.ref 38) (.ref 39) 40 221 222) ::
 (nat_lit 42,hF "total" "total" (top 4) .none .none (hS "hushcards.fractions" 187) none (.ref 41) .none) ::
 (nat_lit 48,hC "common_bottom" "common_bottom" 224 22 1 43 44 (.ref 45) (.ref 46) 47 230 231) ::
 (nat_lit 49,hF "common_bottom" "common_bottom" (top 5) .none .none (hS "hushcards.fractions" 187) none (.ref 48) .none) ::
 (nat_lit 53,hC "own" "own" 235 28 1 50 51 .none .none 52 238 239) ::
 (nat_lit 54,hF "own" "own" (top 7) .none .none (hS "hushcards.orders" 233) none (.ref 53) .none) ::
 (nat_lit 58,hC "cards_at" "cards_at" 241 39 2 55 56 .none .none 57 244 245) ::
 (nat_lit 59,hF "cards_at" "cards_at" (top 8) .none .none (hS "hushcards.orders" 233) none (.ref 58) .none) ::
 (nat_lit 63,hC "laid" "laid" 247 41 2 60 61 .none .none 62 250 251) ::
 (nat_lit 64,hF "laid" "laid" (top 9) .none .none (hS "hushcards.orders" 233) none (.ref 63) .none) ::
 (nat_lit 70,hC "then" "then" 253 43 2 65 66 (.ref 67) (.ref 68) 69 258 259) ::
 (nat_lit 71,hF "then" "then" (top 10) .none .none (hS "hushcards.orders" 233) none (.ref 70) .none) ::
 (nat_lit 75,hC "back" "back" 261 45 1 72 73 .none .none 74 264 265) ::
 (nat_lit 76,hF "back" "back" (top 11) .none .none (hS "hushcards.orders" 233) none (.ref 75) .none) ::
 (nat_lit 82,hC "counted" "counted" 269 48 1 77 78 (.ref 79) (.ref 80) 81 275 276) ::
 (nat_lit 83,hF "counted" "counted" (top 13) .none .none (hS "hushcards.shuffles" 267) none (.ref 82) .none) ::
 (nat_lit 89,hC "spread" "spread" 278 53 2 84 85 (.ref 86) (.ref 87) 88 289 290) ::
 (nat_lit 90,hF "spread" "spread" (top 14) .none .none (hS "hushcards.shuffles" 267) none (.ref 89) .none) ::
 (nat_lit 94,hC "whole_weights" "whole_weights" 294 61 2 91 92 .none .none 93 297 298) ::
 (nat_lit 95,hF "whole_weights" "whole_weights" (top 16) .none .none (hS "hushcards.states" 292) none (.ref 94) .none) ::
 (nat_lit 99,hC "state_of" "state_of" 300 68 1 96 97 .none .none 98 303 304) ::
 (nat_lit 100,hF "state_of" "state_of" (top 17) .none .none (hS "hushcards.states" 292) none (.ref 99) .none) ::
 (nat_lit 104,hC "begun" "begun" 306 76 1 101 102 .none .none 103 309 310) ::
 (nat_lit 105,hF "begun" "begun" (top 18) .none .none (hS "hushcards.states" 292) none (.ref 104) .none) ::
 (nat_lit 111,hC "deal_numbers" "deal_numbers" 312 78 1 106 107 (.ref 108) (.ref 109) 110 316 317) ::
 (nat_lit 112,hF "deal_numbers" "deal_numbers" (top 19) .none .none (hS "hushcards.states" 292) none (.ref 111) .none) ::
 (nat_lit 118,hC "mixed_state" "mixed_state" 319 80 2 113 114 (.ref 115) (.ref 116) 117 327 328) ::
 (nat_lit 119,hF "mixed_state" "mixed_state" (top 20) .none .none (hS "hushcards.states" 292) none (.ref 118) .none) ::
 (nat_lit 123,hC "looked_state" "looked_state" 330 86 2 120 121 .none .none 122 333 334) ::
 (nat_lit 124,hF "looked_state" "looked_state" (top 21) .none .none (hS "hushcards.states" 292) none (.ref 123) .none) ::
 (nat_lit 128,hC "sums_of" "sums_of" 336 94 1 125 126 .none .none 127 339 340) ::
 (nat_lit 129,hF "sums_of" "sums_of" (top 22) .none .none (hS "hushcards.states" 292) none (.ref 128) .none) ::
 (nat_lit 133,hC "is_quiet_look" "is_quiet_look" 342 96 2 130 131 .none .none 132 345 346) ::
 (nat_lit 134,hF "is_quiet_look" "is_quiet_look" (top 23) .none .none (hS "hushcards.states" 292) none (.ref 133) .none) ::
 (nat_lit 138,hC "depth_in" "depth_in" 350 99 2 135 136 .none .none 137 353 354) ::
 (nat_lit 139,hF "depth_in" "depth_in" (top 25) .none .none (hS "hushcards.fewest" 348) none (.ref 138) .none) ::
 (nat_lit 145,hC "cards_told" "cards_told" 356 112 2 140 141 (.ref 142) (.ref 143) 144 366 367) ::
 (nat_lit 146,hF "cards_told" "cards_told" (top 26) .none .none (hS "hushcards.fewest" 348) none (.ref 145) .none) ::
 (nat_lit 150,hC "right_end" "right_end" 369 121 2 147 148 .none .none 149 372 373) ::
 (nat_lit 151,hF "right_end" "right_end" (top 27) .none .none (hS "hushcards.fewest" 348) none (.ref 150) .none) ::
 (nat_lit 157,hC "look_within" "look_within" 375 131 5 152 153 (.ref 154) (.ref 155) 156 388 389) ::
 (nat_lit 158,hF "look_within" "look_within" (top 28) .none .none (hS "hushcards.fewest" 348) none (.ref 157) .none) ::
 (nat_lit 164,hC "mix_within" "mix_within" 391 144 5 159 160 (.ref 161) (.ref 162) 163 400 401) ::
 (nat_lit 165,hF "mix_within" "mix_within" (top 29) .none .none (hS "hushcards.fewest" 348) none (.ref 164) .none) ::
 (nat_lit 171,hC "plan_within" "plan_within" 403 147 4 166 167 (.ref 168) (.ref 169) 170 413 414) ::
 (nat_lit 172,hF "plan_within" "plan_within" (top 30) .none .none (hS "hushcards.fewest" 348) none (.ref 171) .none) ::
 (nat_lit 176,hC "fewest" "fewest" 416 162 3 173 174 .none .none 175 419 420) ::
 (nat_lit 177,hF "fewest" "fewest" (top 31) .none .none (hS "hushcards.fewest" 348) none (.ref 176) .none) ::
 (nat_lit 183,hC "_law_cell_at" "_law_cell_at" 424 171 2 178 179 (.ref 180) (.ref 181) 182 429 430) ::
 (nat_lit 184,hF "_law_cell_at" "_law_cell_at" (top 33) .none .none (h9 422) none (.ref 183) .none) ::
 (nat_lit 190,hC "_law_state" "_law_state" 432 175 2 185 186 (.ref 187) (.ref 188) 189 438 439) ::
 (nat_lit 191,hF "_law_state" "_law_state" (top 34) .none .none (h9 422) none (.ref 190) .none) ::
 (nat_lit 197,hC "_law_take" "_law_take" 441 180 2 192 193 (.ref 194) (.ref 195) 196 448 449) ::
 (nat_lit 198,hF "_law_take" "_law_take" (top 35) .none .none (h9 422) none (.ref 197) .none) ::
 (nat_lit 202,hC "_law_order" "_law_order" 451 189 2 199 200 .none .none 201 454 455) ::
 (nat_lit 203,hF "_law_order" "_law_order" (top 36) .none .none (h9 422) none (.ref 202) .none) ::
 (nat_lit 207,hC "_law_menu_of" "_law_menu_of" 457 192 2 204 205 .none .none 206 460 461) ::
 (nat_lit 208,hF "_law_menu_of" "_law_menu_of" (top 37) .none .none (h9 422) none (.ref 207) .none) ::
 (nat_lit 214,hC "_law_crossed" "_law_crossed" 463 208 3 209 210 (.ref 211) (.ref 212) 213 473 474) ::
 (nat_lit 215,hF "_law_crossed" "_law_crossed" (top 38) .none .none (h9 422) none (.ref 214) .none) ::
 (nat_lit 219,hC "_law_deals_of" "_law_deals_of" 476 215 2 216 217 .none .none 218 479 480) ::
 (nat_lit 220,hF "_law_deals_of" "_law_deals_of" (top 39) .none .none (h9 422) none (.ref 219) .none) ::
 (nat_lit 226,hC "_law_depth_told" "_law_depth_told" 482 235 3 221 222 (.ref 223) (.ref 224) 225 489 490) ::
 (nat_lit 227,hF "_law_depth_told" "_law_depth_told" (top 40) .none .none (h9 422) none (.ref 226) .none) ::
 (nat_lit 231,hC "_law_alike" "_law_alike" 492 240 4 228 229 .none .none 230 495 496) ::
 (nat_lit 232,hF "_law_alike" "_law_alike" (top 41) .none .none (h9 422) none (.ref 231) .none) ::
 (nat_lit 238,hC "law" "law" 498 251 1 233 234 (.ref 235) (.ref 236) 237 507 508) ::
 (nat_lit 239,hF "law" "law" (top 42) .none .none (h9 422) none (.ref 238) .none)::[]
def vw:adf:={PySem.Challenge.pw_hushcards_k75_whole_laid_otherwise with main:={PySem.Challenge.pw_hushcards_k75_whole_laid_otherwise.main with body:=([1,2,3,4,5,7,8,9,10,11,13,14,16,17,18,19,20,21,22,23,25,26,27,28,29,30,31,33,34,35,36,37,38,39,40,41,42]:List Nat).map top}}
def hk:PySem.W.Hook:=PySem.W.kHook Kf [2,3,20,21,27,28,34,35,41,42,48,49,53,54,58,59,63,64,70,71,75,76,82,83,89,90,94,95,99,100,104,105,111,112,118,119,123,124,128,129,133,134,138,139,145,146,150,151,157,158,164,165,171,172,176,177,183,184,190,191,197,198,202,203,207,208,214,215,219,220,226,227,231,232,238,239] (λ_=>by kernel_rfl)
abbrev ZZ:=PySem.Challenge.rw_hushcards_k75_whole_laid_otherwise.row
theorem left:PySem.W.LeftO ZZ.prog vw [] (λs=>PySem.W.xlAt vw [] s&&PySem.W.recOk (PySem.W.RowW.records ZZ.toRowW) s) hk.obs hk.val 2416:=λw=>by kernel_rfl
end Hc
namespace L2
abbrev Key:=Sum Int Str
def xw:Key->aao->Bool
 | .inl k,v=>Value.isInt k v
 | .inr x,v=>Value.isStrOf x v
def XU (w:ac2):Key->Int
 | .inl k=>hashInt k
 | .inr x=>hashStr w x
theorem dB:∀{k:Key} {v:aao},xw k v=true->(∃i t,k=Sum.inl i/\v=Value.int i t)\/(∃x t,k=Sum.inr x/\v=Value.str x t)
 | .inl i,v,h=>by
  obtain⟨t,e⟩:=Value.isInt_shape h;exact .inl ⟨i,t,rfl,e⟩
 | .inr x,v,h=>by
  obtain⟨t,e⟩:=Value.isStrOf_shape h;exact .inr ⟨x,t,rfl,e⟩
theorem GK (i:Int)(t:Tok):xw (.inl i) (.int i t)=true:=by simp[xw,Value.isInt]
theorem GL (x:Str)(t:Tok):xw (.inr x) (.str x t)=true:=by simp[xw,Value.isStrOf]
theorem Rt (a b:Int):decide ((Sum.inl a:Key)=Sum.inl b)=(a==b):=by
 (simp;lia)
theorem Ru (a b:Str):decide ((Sum.inr a:Key)=Sum.inr b)=decide (a=b):=by
 simp
def Rv (a:Int)(b:Str):decide ((Sum.inl a:Key)=Sum.inr b)=false:=hJ (λq=>nomatch q)
def Rx (a:Str)(b:Int):decide ((Sum.inr a:Key)=Sum.inl b)=false:=hJ (λq=>nomatch q)
def fH (prog:adf)(w:ac2):PySem.KeyKind prog w Key where
 is:=xw
 hash:=XU w
 inj:=λv a b ha hb=>by
  rcases dB ha with⟨i,t,rfl,rfl⟩|⟨x,t,rfl,rfl⟩
  ·rcases dB hb with⟨j,u,rfl,e⟩|⟨y,u,rfl,e⟩
   ·lia
   lia
  ·rcases dB hb with⟨j,u,rfl,e⟩|⟨y,u,rfl,e⟩
   ·lia
   lia
 byValue:=λk v h=>by
  rcases dB h with⟨i,t,rfl,rfl⟩|⟨x,t,rfl,rfl⟩<;>rfl
 pyHash:=λhv h=>by
  rcases dB hv with⟨i,t,rfl,rfl⟩|⟨x,t,rfl,rfl⟩
  ·exact wpAny_pyHash_int h
  ·exact wpAny_pyHash_str h
 eqBool:=λhu hv h=>by
  rcases dB hu with⟨i,t,rfl,rfl⟩|⟨x,t,rfl,rfl⟩
  ·rcases dB hv with⟨j,u,rfl,rfl⟩|⟨y,u,rfl,rfl⟩
   ·rw[Rt] at h;exact aeU h
   ·rw[Rv] at h;exact SeqAt.EqAt.int_str i t y u _ _ _ _ h
  ·rcases dB hv with⟨j,u,rfl,rfl⟩|⟨y,u,rfl,rfl⟩
   ·rw[Rx] at h;exact SeqAt.EqAt.str_int x t j u _ _ _ _ h
   ·rw[Ru] at h;exact wpAny_eqBool_str h
 «strs»:=λk x t v h=>by
  rcases dB h with⟨i,u,rfl,e⟩|⟨y,u,rfl,e⟩
  ·lia
  ·injection e with e1 _
   subst e1;cases v<;>rfl
theorem As (prog:adf)(w:ac2)(i:Int)(t:Tok):(fH prog w).is (.inl i) (.int i t)=true:=GK i t
theorem Au (prog:adf)(w:ac2)(x:Str)(t:Tok):(fH prog w).is (.inr x) (.str x t)=true:=GL x t
end L2
namespace L2
inductive V where
 |non|bl (b:Bool)|int (i:Int)|str (x:Str)|byt (b:Array UInt8)|flt (b:UInt64)|ref (a:aaL)|ty (n:String)
 deriving DecidableEq
def aZ:V->aao->Prop
 | .non,u=>u=Value.none
 | .bl b,u=>u=Value.bool b
 | .int i,u=>∃t,u=Value.int i t
 | .str x,u=>∃t,u=Value.str x t
 | .byt b,u=>∃t,u=Value.bytes b t
 | .flt b,u=>∃t,u=Value.float b t
 | .ref a,u=>u=Value.ref a
 | .ty n,u=>u=Value.type n
abbrev bf:List V->List aao->Prop:=afJ aZ
theorem bf.length {xs:List V}{us:List aao}(r:bf xs us):xs.length=us.length:=aea r
theorem bf.get:∀{xs:List V} {us:List aao} {i:Nat} {x:V},bf xs us->xs[i]? = some x->∃u,us[i]? = some u/\aZ x u
 |_,_,_,_,.nil,e=>by simp at e
 |_,_,0,_,.cons r _,e=>by simp at e;subst e;exact⟨_,rfl,r⟩
 |_,_,i+1,x,.cons _ t,e=>by
  obtain⟨u,h1,h2⟩:=bf.get t (by simpa using e);exact⟨u,by simpa using h1,h2⟩
theorem bf.set {x:V}{u:aao}(r:aZ x u):∀{xs:List V} {us:List aao} (i:Nat),bf xs us->bf (xs.set i x) (us.set i u)
 |_,_,_,.nil=>.nil
 |_,_,0,.cons _ t=>.cons r t
 |_,_,i+1,.cons q t=>.cons q (bf.set r i t)
theorem bf.append:∀{xs ys:List V} {us ws:List aao},bf xs us->bf ys ws->bf (xs++ys) (us++ws)
 |_,_,_,_,.nil,s=>s
 |_,_,_,_,.cons r t,s=>.cons r (bf.append t s)
theorem bf.take:∀{xs:List V} {us:List aao} (n:Nat),bf xs us->bf (xs.take n) (us.take n)
 |_,_,0,_=>.nil
 |_,_,_+1,.nil=>.nil
 |_,_,n+1,.cons r t=>.cons r (bf.take n t)
theorem bf.drop:∀{xs:List V} {us:List aao} (n:Nat),bf xs us->bf (xs.drop n) (us.drop n)
 |_,_,0,r=>r
 |_,_,_+1,.nil=>.nil
 |_,_,n+1,.cons _ t=>bf.drop n t
def nZ:Option V->Option aao->Prop
 |some v,some u=>aZ v u
 |none,none=>True
 |_,_=>False
def KV {κ:Type}:List (κ×V)->List (κ×aao)->Prop:=afJ λ(p:κ×V) (q:κ×aao)=>p.1=q.1/\aZ p.2 q.2
def kV:Key->V
 | .inl i=>.int i
 | .inr x=>.str x
inductive HO where
 |lst (xs:List V)
 |tup (xs:List V)
 |dK (bw:List (Key×V))|dT (bw:List (List Key×V))
 |set (S:Int->Bool) (n:Nat)
 |ins (C dx:aaL) (fs:List (Str×V))
 |own (x:aaL)
 |xd (fs:List (Str×V))
 |met (f x:aaL)
 |rng (lo hi:Int)
 |frz (o:Obj) (u:HO)
 |tbl (ps:Array aao)
 |ext (φ:ac5->Prop)
abbrev Hp:=aaL->Option HO
def dz (H:Hp)(a:aaL)(o:HO):Hp:=λb=>if b=a then some o else H b
theorem bD {H:Hp}{o:HO}:dz H a o a=some o:=by unfold dz;rw[hZ rfl]
theorem bB {H:Hp}{o:HO}(h:b≠a):dz H a o b=H b:=by unfold dz;rw[hV h]
theorem UL {H:Hp}{o u:HO}(h:H a=some o)(h':H b=some u)(d:o≠u):a≠b:=by
 lia
theorem cH {H:Hp}{o:HO}(h:H a=some o)(h':H b=none):a≠b:=by
 lia
section
variable (P:adf)(w:ac2)
def cR (H:Hp)(h:ac5)(a:aaL):HO->Prop
 | .lst xs=>xs.length<=aaf/\∃(az:List aao) (n:Nat),bf xs az/\h.get? a=some {cls:=.type "list",data:=.seq az.toArray n}
 | .tup xs=>xs.length<=aaf/\∃az:List aao,bf xs az/\IsTup h a az.toArray/\∃n,h.get? a=some {cls:=.type "tuple",data:=.seq az.toArray n}
 | .dK bw=>bw.length<=aaf/\(a==acf)=false/\∃vs,KV bw vs/\h.DictOf (fH P w) a vs
 | .dT bw=>bw.length<=aaf/\(a==acf)=false/\∃xs:List (List Key×aaL×aao),
   afJ (λ(p:List Key×V) (q:List Key×aaL×aao)=>p.1=q.1/\H q.2.1=some (.tup (p.1.map kV))/\aZ p.2 q.2.2) bw xs/\
   ∃o es ep,h.get? a=some o/\o.ExactDict/\o.data=.dict es ep/\es.toList=xs.map (entryOfKey (tupleKind (fH P w)))/\(xs.map (·.1)).Nodup
 | .set S n=>h.SetOf (intKind P w) a S n
 | .ins C dx fs=>H dx=some (.own a)/\fs.length<=1000/\dx≠a/\h.get? a=some (PySem.W.instObj C dx)/\
   ∃mA,h.Ns1 dx mA/\(∀f,nZ (fs.lookup f) (mA f))/\PySem.Within mA (fs.map (·.1))
 | .own _=>∃o,h.get? a=some o
 | .xd fs=>∃mA,h.Ns1 a mA/\∀f,nZ (fs.lookup f) (mA f)
 | .rng lo hi=>∃t u v,h.get? a=some {cls:=.type "range",data:=.fields #[.int lo t,.int hi u,.int 1 v]}
 | .frz o u=>h.get? a=some o/\cR H h a u
 | .tbl ps=>h.get? a=some {cls:=.none,data:=.fields ps}
 | .met f x=>h.get? a=some (PySem.W.methodObj (.ref f) (.ref x))
 | .ext φ=>φ h/\(∃o,h.get? a=some o)/\∀h1 h2:ac5,φ h1->(∀o,h1.get? a=some o->h2.get? a=some o)->φ h2
def lX (H:Hp)(h:ac5):Prop:=∀a o,H a=some o->cR P w H h a o
end
section
variable {H H':Hp}{o:HO}
theorem cR.lt (x:cR P w H h a o):a<h.objs.size:=by
 cases o with
 |lst xs=>obtain⟨_,_,_,_,e⟩:=x;exact aaF e
 |tup xs=>obtain⟨_,_,_,p,_⟩:=x;exact p.lt
 |dK bw=>obtain⟨_,_,_,_,o,_,_,e,_⟩:=x;exact aaF e
 |dT bw=>obtain⟨_,_,_,_,o,_,_,e,_⟩:=x;exact aaF e
 |set S n=>obtain⟨o,_,_,_,e,_⟩:=x;exact aaF e
 |ins C dx fs=>obtain⟨_,_,_,e,_⟩:=x;exact aaF e
 |own y=>obtain⟨_,e⟩:=x;exact aaF e
 |xd fs=>obtain⟨_,⟨_,_,_,e,_⟩,_⟩:=x;exact aaF e
 |rng lo hi=>obtain⟨_,_,_,e⟩:=x;exact aaF e
 |frz ob u=>obtain⟨e,_⟩:=x;exact aaF e
 |tbl ps=>exact aaF (show h.get? a=some _ from x)
 |met f y=>exact aaF (show h.get? a=some _ from x)
 |ext φ=>obtain⟨_,⟨_,e⟩,_⟩:=x;exact aaF e
theorem Paired.mapP {α β:Type}{F G:α->β->Prop}:∀{l₁:List α} {l₂:List β},afJ F l₁ l₂->(∀a b,F a b->G a b)->afJ G l₁ l₂
 |_,_,.nil,_=>.nil
 |_,_,.cons r t,f=>.cons (f _ _ r) (Paired.mapP t f)
theorem cR.stay (x:cR P w H h a o)(k:∀b u,(b=a\/H b=some (.own a))->h.get? b=some u->h'.get? b=some u)
  (ho:∀b,H b=some (.own a)->H' b=some (.own a)) (ht:∀b xs,H b=some (.tup xs)->H' b=some (.tup xs)):cR P w H' h' a o:=by
 induction o with
 |lst xs=>obtain⟨z,az,n,r,e⟩:=x;exact⟨z,az,n,r,k _ _ (.inl rfl) e⟩
 |tup xs=>obtain⟨z,az,r,⟨ob,e,c⟩,n2,e2⟩:=x;exact⟨z,az,r,⟨ob,k _ _ (.inl rfl) e,c⟩,n2,k _ _ (.inl rfl) e2⟩
 |dK bw=>obtain⟨z,y,vs,r,ob,es,ep,e,c⟩:=x;exact⟨z,y,vs,r,ob,es,ep,k _ _ (.inl rfl) e,c⟩
 |dT bw=>
  obtain⟨z,y,xs,r,ob,es,ep,e,c⟩:=x;exact⟨z,y,xs,Paired.mapP r λp q z=>⟨z.1,ht _ _ z.2.1,z.2.2⟩,ob,es,ep,k _ _ (.inl rfl) e,c⟩
 |set S n=>obtain⟨ob,es,ep,t,e,c⟩:=x;exact⟨ob,es,ep,t,k _ _ (.inl rfl) e,c⟩
 |ins C dx fs=>
  obtain⟨d,z,ne,e,mA,⟨od,es,ep,e2,c⟩,r⟩:=x;exact⟨ho _ d,z,ne,k _ _ (.inl rfl) e,mA,⟨od,es,ep,k _ _ (.inr d) e2,c⟩,r⟩
 |own y=>obtain⟨ob,e⟩:=x;exact⟨ob,k _ _ (.inl rfl) e⟩
 |xd fs=>obtain⟨mA,⟨od,es,ep,e,c⟩,r⟩:=x;exact⟨mA,⟨od,es,ep,k _ _ (.inl rfl) e,c⟩,r⟩
 |rng lo hi=>obtain⟨t,u,v,e⟩:=x;exact⟨t,u,v,k _ _ (.inl rfl) e⟩
 |frz ob u ih=>obtain⟨e,q⟩:=x;exact⟨k _ _ (.inl rfl) e,ih q⟩
 |tbl ps=>
  have e:=x;exact k a _ (.inl rfl) e
 |met f y=>
  have e:=x;exact k a _ (.inl rfl) e
 |ext φ=>obtain⟨p,⟨o,e⟩,st⟩:=x;exact⟨st _ _ p λo q=>k _ _ (.inl rfl) q,⟨o,k _ _ (.inl rfl) e⟩,st⟩
theorem lX.lt (x:lX P w H h)(e:H a=some o):a<h.objs.size:=(x a o e).lt
theorem lX.fresh (x:lX P w H h)(e:h.objs.size<=a):H a=none:=by
 cases q:H a with
 |none=>rfl
 |some u=>exact absurd (aaZ (x.lt q) e) (abC _)
theorem lX.kept (x:lX P w H h)(k:∀b u,h.get? b=some u->h'.get? b=some u):lX P w H h':=λa o e=>
 (x a o e).stay (λb u _ q=>k b u q) (λ_ q=>q) λ_ _ q=>q
theorem lX.laid (x:lX P w H h)(k:∀b u,h.get? b=some u->h'.get? b=some u)(hp:h.objs.size<=a)(new:cR P w (dz H a o) h' a o):lX P w (dz H a o) h':=λb u e=>by
 have hn:=x.fresh hp;by_cases hb:b=a
 ·grind[bD]
 ·rw[bB hb] at e;exact (x b u e).stay (λc v _ q=>k c v q) (λc q=>by rw[bB (cH q hn)];exact q) λc xs q=>by rw[bB (cH q hn)];exact q
end
def Rd (H:Hp)(a:aaL)(u:HO):Prop:=H a=some u\/∃o,H a=some (.frz o u)
theorem Rd.ok {H:Hp}{u:HO}(r:Rd H a u)(x:lX P w H h):cR P w H h a u:=by
 rcases r with r|⟨o,r⟩
 ·exact x a u r
 ·obtain⟨_,q⟩:=x a _ r;exact q
def Us:Option HO->Prop
 |some (.lst _)=>True
 |some (.dK _)=>True
 |some (.dT _)=>True
 |some (.set _ _)=>True
 |some (.ins _ _ _)=>True
 |some (.ext _)=>True
 |_=>False
section
variable {H:Hp}{x e:aaL}{o':HO}
theorem lX.write (ok:lX P w H h)(mu:Us (H x))(he:e=x\/H e=some (.own x))(k:∀b u,b≠e->h.get? b=some u->h'.get? b=some u)(UH:∃u,h'.get? e=some u)
  (new:cR P w (dz H x o') h' x o'):lX P w (dz H x o') h':=λb u q=>by
 have WN:∀c y,H c=some (.own y)->c≠x:=λc y r z=>by subst z;rw[r] at mu;exact mu
 have YT:∀c xs,H c=some (.tup xs)->c≠x:=λc xs r z=>by subst z;rw[r] at mu;exact mu
 by_cases hb:b=x
 ·grind[bD]
 ·rw[bB hb] at q;by_cases hbe:b=e
  ·have q':H b=some (.own x):=by
    lia
   rw[q] at q';cases q';obtain⟨v,hv⟩:=UH;exact⟨v,by lia⟩
  ·refine (ok b u q).stay (λc v hc r=>k c v ?_ r) (λc r=>by rw[bB (WN c b r)];exact r) λc xs r=>by rw[bB (YT c xs r)];exact r
   grind
end
structure Un (fs ex:List aaL)(H H':Hp)(h h':ac5):Prop where
 keep:∀b o,h.get? b=some o->H b=none->b∉fs->b∉ex->h'.get? b=some o
 slot:∀b o,h.get? b=some o->H b=none->b∈fs->b∉ex->∃sl,h'.get? b=some {o with slots:=sl}
 free:∀b o,h.get? b=some o->H b=none->b∉ex->H' b=none
 there:∀b o,h.get? b=some o->b∉ex->∃o',h'.get? b=some o'
 tups:∀b xs,H b=some (.tup xs)->H' b=some (.tup xs)
 frzs:∀b o u,H b=some (.frz o u)->H' b=some (.frz o u)
 tbls:∀b ps,H b=some (.tbl ps)->∃more,H' b=some (.tbl (ps++more))
section
variable {fs fs' ex ex':List aaL}{H H1 H2:Hp}{h1 h2:ac5}{x e:aaL}{o:HO}
theorem Un.any (u:Un fs ex H H1 h h1){ob:Obj}(q:h.get? b=some ob)(n:H b=none)(hx:b∉ex):∃sl,h1.get? b=some {ob with slots:=sl}:=by
 by_cases hb:b∈fs
 ·exact u.slot b ob q n hb hx
 ·exact⟨ob.slots,u.keep b ob q n hb hx⟩
theorem Un.kept (k:∀b u,h.get? b=some u->h'.get? b=some u):Un fs ex H H h h' :=
 ⟨λb ob q _ _ _=>k b ob q,λb ob q _ _ _=>⟨ob.slots,k b ob q⟩,λ_ _ _ n _=>n,λb ob q _=>⟨ob,k b ob q⟩,λ_ _ q=>q,λ_ _ _ q=>q,λ_ ps q=>⟨#[],by rw[q];simp⟩⟩
theorem Un.refl:Un fs ex H H h h:=Un.kept λ_ _ q=>q
theorem Un.laid (k:∀b u,h.get? b=some u->h'.get? b=some u)(hp:h.objs.size<=a)(hn:H a=none):Un fs ex H (dz H a o) h h' where
 keep:=λb u q _ _ _=>k b u q
 slot:=λb u q _ _ _=>⟨u.slots,k b u q⟩
 free:=λb u q n _=>by rw[bB (aaW (aaZ (aaF q) hp))];exact n
 there:=λb u q _=>⟨u,k b u q⟩
 tups:=λb xs q=>by rw[bB (cH q hn)];exact q
 frzs:=λb u xs q=>by rw[bB (cH q hn)];exact q
 tbls:=λb ps q=>⟨#[],by rw[bB (cH q hn),q];simp⟩
theorem Un.write (mu:Us (H x))(he:e=x\/H e=some (.own x))(k:∀b u,b≠e->h.get? b=some u->h'.get? b=some u)(UH:∃u,h'.get? e=some u):Un fs ex H (dz H x o) h h':=by
 have hx:∀b,H b=none->b≠x:=λb n z=>by subst z;rw[n] at mu;exact mu
 have hb:∀b,H b=none->b≠e:=λb n z=>by
  lia
 have hm:∀b u,H b=some u->¬Us (some u)->b≠x:=λb u q nm z=>by lia
 refine⟨λb u q n _ _=>k b u (hb b n) q,λb u q n _ _=>⟨u.slots,k b u (hb b n) q⟩,λb u q n _=>by rw[bB (hx b n)];exact n,λb u q _=>?_,
  λb xs q=>by rw[bB (hm b _ q λz=>z)];exact q,λb u xs q=>by rw[bB (hm b _ q λz=>z)];exact q,λb ps q=>⟨#[],by rw[bB (hm b _ q λz=>z),q];simp⟩⟩
 grind
end
def Zw (h:ac5)(H:Hp):List aaL:=(aax h.objs.size).filter λa=>(H a).isSome
def GN (h:ac5)(H:Hp):ac5:=PySem.W.hideAll h (Zw h H)
def GO (h:ac5)(H:Hp):(GN h H).objs.size=h.objs.size:=PySem.W.hideAll_size _ _
theorem Im {H:Hp}{o:Obj}(e:h.get? b=some o)(n:H b=none):(GN h H).get? b=some o:=
 PySem.W.hideAll_get _ e λhm=>by
  have q:=(abX.mp hm).2;grind
theorem MW {H:Hp}{o:Obj}(e:(GN h H).get? b=some o):h.get? b=some o/\H b=none:=by
 have e' :=PySem.W.of_hideAll _ e;refine⟨e',?_⟩;cases q:H b with
 |none=>rfl
 |some x=>
  grind[Zw,aaF,GN,PySem.W.hideAll_none]
end L2
variable {xs vs:List L2.V}{H H' H1 H2:L2.Hp}{v y v':L2.V}{bw:List (List L2.Key×L2.V)}
namespace L2
structure Mod (K:aam)(mg:Str->Option aao)(base:ac5):Prop where
 kin:K.In base
 glob:base.Ns abg mg
 blt:∃mb,base.Ns builtinsNs mb/\∀x:Str,x≠"__name__"->mb x=abk x
 nolimit:base.NoLimit
structure Cx where
 prog:adf
 w:ac2
 K:aam
 mg:Str->Option aao
 base:ac5
 A:abd
 N:List Str
 s₀:aaE
 H₀:Hp
 env:Env
 Č:List Env
 stack:List Env
 ex:List aaL
 fn:Str->Bool
 calm:Bool
 pn:List (aaL×Obj)
 xe:aao->aaE->Prop
def EL (l:List Env):List aaL:=l.filterMap (·.frame)
abbrev Cx.fs (X:Cx):List aaL:=EL X.Č
def EM (sc:ae3)(x:Str):Prop:=sc.names.lookup x=some .local\/sc.names.lookup x=some .cell\/sc.names.lookup x=some .free
def MX (sc:ae3)(x:Str):Prop:=sc.names.lookup x=some .local\/sc.names.lookup x=some .cell
def XW (env:Env)(h:ac5)(m:Str->Option aao)(x:Str)(u:aao):Prop:=
 (env.kindOf x=some .local/\m x=some u)\/((env.kindOf x=some .cell\/env.kindOf x=some .free)/\∃c,env.cells.lookup x=some c/\h.IsCell c (some u))
structure Cx.Ok (X:Cx):Prop where
 mod:Mod X.K X.mg X.base
 kind:X.env.scope.kind=.function
 glob:X.env.globals=abg
 blt:X.env.builtins=builtinsNs
 above:X.s₀.heap.objs.size<=X.env.locals
 inj:∀x y c,X.env.cells.lookup x=some c->X.env.cells.lookup y=some c->x=y
 has:∀x,(X.env.kindOf x=some .cell\/X.env.kindOf x=some .free)->∃c,X.env.cells.lookup x=some c
 cab:∀x c,X.fn x=true->X.env.cells.lookup x=some c->X.s₀.heap.objs.size<=c
 hd:X.calm=true->X.A.handled=none
 frames:X.A.frames=some X.stack
 stk:X.stack=X.Č\/(X.stack=X.env::X.Č/\X.env.frame=some X.env.locals)
 exf:∀b∈X.ex,b≠X.env.locals/\∀x c,X.env.cells.lookup x=some c->c≠b
 bs:∀b o,X.base.get? b=some o->X.s₀.heap.get? b=some o/\X.H₀ b=none
 bsz:X.base.objs.size<=X.s₀.heap.objs.size
 noex:∀b o,X.base.get? b=some o->b∉X.ex
 exfs:∀b∈X.ex,b∉X.fs
 funs:X.s₀.heap.FunFrames X.base X.Č
 frf:∀b∈X.fs,X.H₀ b=none
structure aG (X:Cx)(ċ:List (aaL×Obj))(σ:List (Option V))(H:Hp)(s:aaE):Prop where
 ok:X.Ok
 os:s.os=X.s₀.os
 bare:AllBare s.gens
 base:Un X.fs X.ex X.H₀ H X.s₀.heap s.heap
 loc:∃m,s.heap.Ns X.env.locals m/\∀(i:Nat) (x:Str) (v:V),X.N[i]? = some x->σ[i]? = some (some v)->EM X.env.scope x->∃u,aZ v u/\XW X.env s.heap m x u
 cell:∀x c,X.env.cells.lookup x=some c->∃v,s.heap.IsCell c v
 free:H X.env.locals=none
 freeC:∀x c,X.env.cells.lookup x=some c->H c=none
 pin:∀p∈X.pn++ċ,s.heap.get? p.1=some p.2/\H p.1=none/\p.1≠X.env.locals/\p.1∉X.fs/\∀v,p.2.data≠.cell v
 hok:lX X.prog X.w H s.heap
 len:σ.length=X.N.length
section
variable {X:Cx}{σ:List (Option V)}
theorem Cx.Ok.nofr (ok:X.Ok){o:Obj}(e:X.base.get? b=some o):b∉X.fs:=λhb=>by
 have:=(ok.funs.mem hb).1;lia
theorem aG.bs (I:aG X ċ σ H s):∀b o,X.base.get? b=some o->s.heap.get? b=some o/\H b=none:=λb o e=>
 ⟨I.base.keep b o (I.ok.bs b o e).1 (I.ok.bs b o e).2 (I.ok.nofr e) (I.ok.noex b o e),I.base.free b o (I.ok.bs b o e).1 (I.ok.bs b o e).2 (I.ok.noex b o e)⟩
theorem aG.bk (I:aG X ċ σ H s):∀b o,X.base.get? b=some o->s.heap.get? b=some o:=λb o e=>(I.bs b o e).1
theorem aG.mod (I:aG X ċ σ H s):Mod X.K X.mg X.base:=I.ok.mod
theorem aG.kIn (I:aG X ċ σ H s):X.K.In s.heap:=I.ok.mod.kin.keeps I.bk
theorem aG.lt (I:aG X ċ σ H s):X.env.locals<s.heap.objs.size:=let ⟨_,hn,_⟩:=I.loc;hn.lt
theorem aG.sz (I:aG X ċ σ H s):X.s₀.heap.objs.size<=s.heap.objs.size:=abl I.ok.above (aeJ I.lt)
theorem aG.nofs (I:aG X ċ σ H s)(h:s.heap.objs.size<=a):a∉X.fs:=λhb=>by
 obtain⟨_,o,ho,_⟩:=I.ok.funs.mem hb;exact absurd (aaZ (aaF ho) (abl I.sz h)) (abC _)
theorem aG.cne (I:aG X ċ σ H s):∀x c,X.env.cells.lookup x=some c->c≠X.env.locals:=λx c e z=>by
 obtain⟨v,o,ho,hd⟩:=I.cell x c e;obtain⟨m,⟨o',es,ep,EC,MK,_⟩,_⟩:=I.loc;lia
theorem aG.funs (I:aG X ċ σ H s):s.heap.FunFrames X.base X.Č:=by
 have all:∀(l:List Env),(∀b∈EL l,b∈X.fs)->X.s₀.heap.FunFrames X.base l->s.heap.FunFrames X.base l:=by
  intro l
  induction l with
  |nil=>intro _ _;trivial
  |cons env r ih=>
   intro hs hl;obtain⟨hk,⟨L,o,hf,hn,ho,hd⟩,hr⟩:=hl;have hL:=hs L (by unfold EL;rw[acB,hf];exact aae);obtain⟨sl,e⟩:=I.base.slot L o ho (I.ok.frf L hL) hL λz=>I.ok.exfs L z hL;exact⟨hk,⟨L,_,hf,hn,e,hd⟩,ih (λb hb=>hs b (by unfold EL;rw[acB,hf];exact aai _ hb)) hr⟩
 exact all _ (λ_ hb=>hb) I.ok.funs
theorem aG.stack (I:aG X ċ σ H s):s.heap.FunFrames X.base X.stack:=by
 rcases I.ok.stk with e|⟨e,hf⟩
 ·rw[e];exact I.funs
 ·rw[e];obtain⟨m,hn,_⟩:=I.loc;refine .cons (by rw[I.ok.kind];decide) hf hn ?_ I.funs;exact Heap.get?_none_of_le (abl I.ok.bsz I.ok.above)
theorem aG.stkSub (I:aG X ċ σ H s):∀b∈EL X.stack,b∈X.env.locals::X.fs:=λb hb=>by
 rcases I.ok.stk with e|⟨e,hf⟩
 ·rw[e] at hb;exact aai _ hb
 ·rw[e] at hb;unfold EL at hb;rw[acB,hf] at hb;exact hb
theorem aG.stkFree (I:aG X ċ σ H s):∀b∈EL X.stack,H b=none:=λb hb=>by
 rcases aaA.mp (I.stkSub b hb) with e|hb
 ·rw[e];exact I.free
 ·obtain⟨_,o,ho,_⟩:=I.ok.funs.mem hb;exact I.base.free b o ho (I.ok.frf b hb) λz=>I.ok.exfs b z hb
theorem aG.step {t':Nat}{g':Array GenState}{d':Drawn}(I:aG X ċ σ H s)(MR:∀b∈ch,(b∈X.ex\/X.s₀.heap.objs.size<=b)/\b≠X.env.locals/\(∀x c,X.env.cells.lookup x=some c->c≠b)/\∀p∈X.pn++ċ,p.1≠b)(keep:∀b o,b≠X.env.locals->b∉X.fs->b∉ch->s.heap.get? b=some o->H b=none->h'.get? b=some o)(slot:∀b o,b≠X.env.locals->b∈X.fs->b∉ch->s.heap.get? b=some o->H b=none->∃sl,h'.get? b=some {o with slots:=sl})(free:∀b o,b∉ch->s.heap.get? b=some o->H b=none->H' b=none)(there:∀b o,b∉ch->s.heap.get? b=some o->∃o',h'.get? b=some o')(tups:∀b xs,H b=some (.tup xs)->H' b=some (.tup xs))(frzs:∀b o u,H b=some (.frz o u)->H' b=some (.frz o u))(tbls:∀b ps,H b=some (.tbl ps)->∃more,H' b=some (.tbl (ps++more)))(ns:∀m,s.heap.Ns X.env.locals m->h'.Ns X.env.locals m)(hok:lX X.prog X.w H' h')(hg:AllBare g') :
  aG X ċ σ H' {s with heap:=h',gens:=g',drawn:=d',toks:=t'}:=by
 have Z5:∀b o,X.s₀.heap.get? b=some o->b≠X.env.locals:=λb o e=>aaW (aaZ (aaF e) I.ok.above);have XH:∀b o,X.s₀.heap.get? b=some o->b∉X.ex->b∉ch:=λb o e hx hb=>by
  rcases (MR b hb).1 with z|z
  ·exact hx z
  ·exact absurd (aaZ (aaF e) z) (abC _)
 have Rb:∀x c,X.env.cells.lookup x=some c->∀v,s.heap.IsCell c v->h'.IsCell c v:=λx c e v θ=>by
  obtain⟨o,ho,hd⟩:=θ;have WO:=λz=>(MR c z).2.2.1 x c e rfl;by_cases hc:c∈X.fs
  ·obtain⟨sl,q⟩:=slot c o (I.cne x c e) hc WO ho (I.freeC x c e);exact⟨_,q,hd⟩
  ·exact⟨o,keep c o (I.cne x c e) hc WO ho (I.freeC x c e),hd⟩
 refine⟨I.ok,I.os,hg,⟨λb o e n hb hx=>?_,λb o e n hb hx=>?_,λb o e n hx=>?_,λb o e hx=>?_,λb xs e=>tups b xs (I.base.tups b xs e),λb o xs e=>frzs b o xs (I.base.frzs b o xs e),λb ps e=>?_⟩,?_,λx c e=>?_,?_,λx c e=>?_,λp hp=>?_,hok,I.len⟩
 ·exact keep b o (Z5 b o e) hb (XH b o e hx) (I.base.keep b o e n hb hx) (I.base.free b o e n hx)
 ·obtain⟨sl,e1⟩:=I.base.slot b o e n hb hx;obtain⟨sl',e2⟩:=slot b _ (Z5 b o e) hb (XH b o e hx) e1 (I.base.free b o e n hx);exact⟨sl',e2⟩
 ·obtain⟨o',e1⟩:=I.base.there b o e hx;exact free b o' (XH b o e hx) e1 (I.base.free b o e n hx)
 ·obtain⟨o',e1⟩:=I.base.there b o e hx;exact there b o' (XH b o e hx) e1
 ·obtain⟨m1,e1⟩:=I.base.tbls b ps e;grind
 ·obtain⟨m,hn,hl⟩:=I.loc;refine⟨m,ns m hn,λi x v e1 e2 e3=>?_⟩;obtain⟨u,r,l⟩:=hl i x v e1 e2 e3;refine⟨u,r,?_⟩;rcases l with l|⟨k,c,e,z⟩
  ·exact .inl l
  ·exact .inr ⟨k,c,e,Rb x c e _ z⟩
 ·obtain⟨v,z⟩:=I.cell x c e;exact⟨v,Rb x c e v z⟩
 ·obtain⟨m,⟨o,_,_,ho,_⟩,_⟩:=I.loc;exact free _ o (λz=>(MR _ z).2.1 rfl) ho I.free
 ·obtain⟨v,o,ho,hd⟩:=I.cell x c e;exact free c o (λz=>(MR c z).2.2.1 x c e rfl) ho (I.freeC x c e)
 ·obtain⟨e,n,ne,nf,d⟩:=I.pin p hp;have WO:=λz=>(MR p.1 z).2.2.2 p hp rfl;exact⟨keep p.1 p.2 ne nf WO e n,free p.1 p.2 WO e n,ne,nf,d⟩
theorem aG.un {t':Nat}(I:aG X ċ σ H s)(u:Un X.fs [] H H' s.heap h')(hok:lX X.prog X.w H' h'):aG X ċ σ H' {s with heap:=h',toks:=t'}:=by
 obtain⟨m,⟨o,es,ep,ho,r⟩,_⟩:=id I.loc;obtain⟨sl,hL⟩:=u.any ho I.free (by simp);exact I.step (ch:=[]) (λ_ z=>nomatch z) (λb o _ hb _ e n=>u.keep b o e n hb (by simp)) (λb o _ hb _ e n=>u.slot b o e n hb (by simp)) (λb o _ e n=>u.free b o e n (by simp)) (λb o _ e=>u.there b o e (by simp)) u.tups u.frzs u.tbls (λm' hm=>by
  obtain⟨o',MD,â,EC,r'⟩:=hm;rw[ho] at EC;cases EC;exact⟨_,MD,â,hL,r'⟩) hok I.bare
theorem aG.call {t':Nat}{g':Array GenState}{d':Drawn}(I:aG X ċ σ H s)(u:Un (EL X.stack) ch H H' s.heap h')(hok:lX X.prog X.w H' h')(hg:AllBare g')(MR:∀b∈ch,(b∈X.ex\/X.s₀.heap.objs.size<=b)/\b≠X.env.locals/\(∀x c,X.env.cells.lookup x=some c->c≠b)/\∀p∈X.pn++ċ,p.1≠b) :
  aG X ċ σ H' {s with heap:=h',gens:=g',drawn:=d',toks:=t'}:=by
 obtain⟨m,⟨o,es,ep,ho,r⟩,_⟩:=id I.loc;obtain⟨sl,hL⟩:=u.any ho I.free λz=>(MR _ z).2.1 rfl;exact I.step MR (λb o hL hb hc e n=>u.keep b o e n (λz=>(aaA.mp (I.stkSub b z)).elim hL hb) hc) (λb o _ _ hc e n=>u.any e n hc) (λb o hc e n=>u.free b o e n hc) (λb o hc e=>u.there b o e hc) u.tups u.frzs u.tbls (λm' hm=>by
  obtain⟨o',MD,â,EC,r'⟩:=hm;rw[ho] at EC;cases EC;exact⟨_,MD,â,hL,r'⟩) hok hg
theorem aG.turned {t':Nat}(I:aG X ċ σ H s)(k:∀b o,b≠it->s.heap.get? b=some o->h'.get? b=some o)(hn:H it=none)(hL:it≠X.env.locals)(h1:it∈X.ex\/X.s₀.heap.objs.size<=it)(h2:∀x c,X.env.cells.lookup x=some c->c≠it)(h3:∀p∈X.pn++ċ,p.1≠it):aG X ċ σ H {s with heap:=h',toks:=t'}:=by
 have Z6:∀b u,H b=some u->b≠it:=λb u e z=>by lia
 refine I.step (ch:=[it]) (λb hb=>?_) (λb o _ _ hc e _=>k b o (λz=>hc (by simp[z])) e) (λb o _ _ hc e _=>⟨o.slots,k b o (λz=>hc (by simp[z])) e⟩) (λ_ _ _ _ n=>n)
  (λb o hc e=>⟨o,k b o (λz=>hc (by simp[z])) e⟩) (λ_ _ e=>e) (λ_ _ _ e=>e) (λb ps e=>⟨#[],by rw[e];simp⟩) (λm hm=>?_) (λb u e=>?_) I.bare
 ·have e:=by simpa using hb
  subst e;exact⟨h1,hL,h2,h3⟩
 ·obtain⟨o,es,ep,ho,r⟩:=hm;exact⟨o,es,ep,k _ o (Ne.symm hL) ho,r⟩
 ·refine (I.hok b u e).stay (λc v hc q=>k c v ?_ q) (λ_ q=>q) λ_ _ q=>q;lia
theorem aG.tok (I:aG X ċ σ H s)(t:Nat):aG X ċ σ H {s with toks:=t}:=I.un Un.refl I.hok
theorem aG.kept {t':Nat}(I:aG X ċ σ H s)(k:∀b u,s.heap.get? b=some u->h'.get? b=some u):aG X ċ σ H {s with heap:=h',toks:=t'}:=I.un (Un.kept k) (I.hok.kept k)
theorem aG.laid {t':Nat}{o:HO}(I:aG X ċ σ H s)(k:∀b u,s.heap.get? b=some u->h'.get? b=some u)(hp:s.heap.objs.size<=a)(new:cR X.prog X.w (dz H a o) h' a o) :
  aG X ċ σ (dz H a o) {s with heap:=h',toks:=t'}:=I.un (Un.laid k hp (I.hok.fresh hp)) (I.hok.laid k hp new)
theorem aG.write {t':Nat}{x e:aaL}{o:HO}(I:aG X ċ σ H s)(mu:Us (H x))(he:e=x\/H e=some (.own x))(k:∀b u,b≠e->s.heap.get? b=some u->h'.get? b=some u)(UH:∃u,h'.get? e=some u)(new:cR X.prog X.w (dz H x o) h' x o):aG X ċ σ (dz H x o) {s with heap:=h',toks:=t'}:=I.un (Un.write mu he k UH) (I.hok.write mu he k UH new)
theorem aG.pins_of {Rc:List (aaL×Obj)}(I:aG X ċ σ H s)(h:∀p∈Rc,s.heap.get? p.1=some p.2/\H p.1=none/\p.1≠X.env.locals/\p.1∉X.fs/\∀v,p.2.data≠.cell v):aG X Rc σ H s:=
 ⟨I.ok,I.os,I.bare,I.base,I.loc,I.cell,I.free,I.freeC,λp hp=>(aaQ.mp hp).elim (λz=>I.pin p (abn _ z)) (h p),I.hok,I.len⟩
theorem Av (hN:N.Nodup)(a:N[i]? = some x)(b:N[j]? = some x):i=j:=by
 obtain⟨h1,e1⟩:=aap.mp a;obtain⟨h2,e2⟩:=aap.mp b;exact (List.getElem_inj hN).mp (e1.trans e2.symm)
theorem xx {A:abd}{u:aao}{Q:Unit->aaE->Prop}(I:aG X ċ σ H s)(hN:X.N.Nodup)(hi:X.N[i]? = some x)(hx:MX X.env.scope x)(r:aZ v u)(h:∀s',aG X ċ (σ.set i (some v)) H s'->(∃a,acL a s.heap s'.heap/\(a=X.env.locals\/X.env.cells.lookup x=some a))->Q () s')(hf:X.fn x=true\/X.env.scope.names.lookup x=some .local:=by first|exact .inl rfl|exact .inr rfl|assumption):aaT M A (storeName X.env x u) Q E s:=by
 obtain⟨m,hn,hl⟩:=id I.loc;have YU:(X.env.scope.kind==.class||(X.env.scope.kind==.module&&X.env.locals != X.env.globals))=false:=by rw[I.ok.kind];rfl
 have Z7:i<σ.length:=by rw[I.len];exact (aap.mp hi).1
 have cne:=I.cne;have GD:∀{a:aaL} {h':ac5},(∃o,s.heap.get? a=some o/\H a=none)->acL a _ h'->lX _ X.w H h':=λ{a h'} ha hs b ob e=>by
  obtain⟨_,_,wD⟩:=ha;refine (I.hok b ob e).stay (λc w' hc q=>(hs.2 c ?_).trans q) (λ_ q=>q) λ_ _ q=>q;lia
 rcases hx with hk|hk
 ·refine wpAny_storeName_local hk hn (λh' Pp hs=>?_) YU;obtain⟨oL,_,_,Ue,_⟩:=id hn;refine h _ ⟨I.ok,I.os,I.bare,⟨λb o e n hb hx=>?_,λb o e n hb hx=>?_,I.base.free,λb o e hx=>?_,I.base.tups,I.base.frzs,I.base.tbls⟩,⟨_,Pp,λj y v' e1 e2 e3=>?_⟩,λy c e=>?_,I.free,I.freeC,λp hp=>?_,GD ⟨oL,Ue,I.free⟩ hs,by simpa using I.len⟩ ⟨_,hs,.inl rfl⟩
  ·exact (hs.2 b (aaW (aaZ (aaF e) I.ok.above))).trans (I.base.keep b o e n hb hx)
  ·obtain⟨sl,e1⟩:=I.base.slot b o e n hb hx;exact⟨sl,(hs.2 b (aaW (aaZ (aaF e) I.ok.above))).trans e1⟩
  ·obtain⟨o',e1⟩:=I.base.there b o e hx;exact⟨o',(hs.2 b (aaW (aaZ (aaF e) I.ok.above))).trans e1⟩
  ·by_cases hj:j=i
   ·subst hj;rw[hi] at e1;cases e1;rw[abK Z7] at e2;cases e2;exact⟨u,r,.inl ⟨hk,by simp⟩⟩
   ·rw[aaV (Ne.symm hj)] at e2;obtain⟨u',r',q⟩:=hl j y v' e1 e2 e3;refine⟨u',r',?_⟩;rcases q with⟨k,e⟩|⟨k,c,e,z⟩
    ·refine .inl ⟨k,?_⟩;have:y≠x:=λe=>hj (Av hN e1 (e▸hi));simp[this,e]
    ·exact .inr ⟨k,c,e,z.sameBut hs (cne y c e)⟩
  ·obtain⟨w',z⟩:=I.cell y c e;exact⟨w',z.sameBut hs (cne y c e)⟩
  ·obtain⟨e,n,ne,nf,d⟩:=I.pin p hp;exact⟨(hs.2 p.1 ne).trans e,n,ne,nf,d⟩
 ·have YV:X.fn x=true:=by
   lia
  obtain⟨c,hc⟩:=I.ok.has x (.inl hk);obtain⟨w',z⟩:=I.cell x c hc;refine wpAny_storeName_cell I.ok.kind hk hc z (λh' XI hs=>?_);obtain⟨oc,hoc,hocd⟩:=id z;refine h _ ⟨I.ok,I.os,I.bare,⟨λb o e n hb hx=>?_,λb o e n hb hx=>?_,I.base.free,λb o e hx=>?_,I.base.tups,I.base.frzs,I.base.tbls⟩,⟨m,hn.sameBut hs (Ne.symm (cne x c hc)),λj y v' e1 e2 e3=>?_⟩,λy c' e=>?_,I.free,I.freeC,λp hp=>?_,GD ⟨oc,hoc,I.freeC x c hc⟩ hs,by simpa using I.len⟩ ⟨c,hs,.inr hc⟩
  ·exact (hs.2 b (aaW (aaZ (aaF e) (I.ok.cab x c YV hc)))).trans (I.base.keep b o e n hb hx)
  ·obtain⟨sl,e1⟩:=I.base.slot b o e n hb hx;exact⟨sl,(hs.2 b (aaW (aaZ (aaF e) (I.ok.cab x c YV hc)))).trans e1⟩
  ·obtain⟨o',e1⟩:=I.base.there b o e hx;exact⟨o',(hs.2 b (aaW (aaZ (aaF e) (I.ok.cab x c YV hc)))).trans e1⟩
  ·by_cases hj:j=i
   ·subst hj;rw[hi] at e1;cases e1;rw[abK Z7] at e2;cases e2;exact⟨u,r,.inr ⟨.inl hk,c,hc,XI⟩⟩
   ·rw[aaV (Ne.symm hj)] at e2;obtain⟨u',r',q⟩:=hl j y v' e1 e2 e3;refine⟨u',r',?_⟩;rcases q with q|⟨k,c',e,z'⟩
    ·exact .inl q
    ·refine .inr ⟨k,c',e,z'.sameBut hs ?_⟩;rintro rfl;exact hj (Av hN e1 (I.ok.inj _ _ _ e hc▸hi))
  ·by_cases hcc:c'=c
   ·grind
   ·obtain⟨w2,z2⟩:=I.cell y c' e;exact⟨w2,z2.sameBut hs hcc⟩
  ·obtain⟨e,n,ne,nf,d⟩:=I.pin p hp;refine⟨(hs.2 p.1 ?_).trans e,n,ne,nf,d⟩;grind
def oK {A:abd}{u:aao}{Q:Unit->aaE->Prop}(I:aG X ċ σ H s)(hN:X.N.Nodup)(hi:X.N[i]? = some x)(hx:MX X.env.scope x)(r:aZ v u)(h:∀s',aG X ċ (σ.set i (some v)) H s'->Q () s')(hf:X.fn x=true\/X.env.scope.names.lookup x=some .local:=by first|exact .inl rfl|exact .inr rfl|assumption):aaT M A (storeName X.env x u) Q E s:=
 xx I hN hi hx r (λs' I' _=>h s' I') hf
theorem aG.call' {s':aaE}(I:aG X ċ σ H s)(ho:s'.os=s.os)(u:Un (EL X.stack) ch H H' s.heap s'.heap)(hok:lX X.prog X.w H' s'.heap)(hg:AllBare s'.gens)(MR:∀b∈ch,(b∈X.ex\/X.s₀.heap.objs.size<=b)/\b≠X.env.locals/\(∀x c,X.env.cells.lookup x=some c->c≠b)/\∀p∈X.pn++ċ,p.1≠b):aG X ċ σ H' s':=by
 obtain⟨h',g',d',t',o'⟩:=s';have e:=ho;subst e;exact I.call u hok hg MR
end
abbrev XK:=aao->Option aaL->Hp->Prop
abbrev St:=List (Option V)
abbrev VK:=V->Hp->Prop
abbrev TE:=St->Hp->VK->Prop
abbrev TT:=St->Hp->(Bool->Hp->Prop)->Prop
abbrev TA:=St->Hp->(List V->Hp->Prop)->Prop
structure n9 where
 nx:St->Hp->Prop
 rt:VK
 bk:St->Hp->Prop:=λ_ _=>False
 ct:St->Hp->Prop:=λ_ _=>False
abbrev TS:=n9->St->Hp->Prop
def EP (X:Cx)(ċ:List (aaL×Obj))(σ:St)(Q:VK)(u:aao)(s':aaE):Prop:=∃v H',aG X ċ σ H' s'/\aZ v u/\Q v H'
def TP (X:Cx)(ċ:List (aaL×Obj))(σ:St)(Q:Bool->Hp->Prop)(b:Bool)(s':aaE):Prop:=∃H',aG X ċ σ H' s'/\Q b H'
def AP (X:Cx)(ċ:List (aaL×Obj))(σ:St)(Q:List V->Hp->Prop)(us:List aao)(s':aaE):Prop:=∃vs H',aG X ċ σ H' s'/\bf vs us/\Q vs H'
def SP (X:Cx)(ċ:List (aaL×Obj))(D:n9)(f:Flow)(s':aaE):Prop:=
 match f with
 | .next=>∃ζ H',aG X ċ ζ H' s'/\D.nx ζ H'
 | .brk=>∃ζ H',aG X ċ ζ H' s'/\D.bk ζ H'
 | .cont=>∃ζ H',aG X ċ ζ H' s'/\D.ct ζ H'
 | .ret u=>∃v ζ H',aG X ċ ζ H' s'/\aZ v u/\D.rt v H'
def PE (X:Cx)(e:ab6)(t:TE):Prop:=
 ∀(ċ:List (aaL×Obj)) (s:aaE) (σ:St) (H:Hp) (Q:VK),aG X ċ σ H s->t σ H Q->aaT (aaX X.prog X.w) X.A (adM e X.env) (EP X ċ σ Q) X.xe s
def PT (X:Cx)(e:ab6)(t:TT):Prop:=
 ∀(ċ:List (aaL×Obj)) (s:aaE) (σ:St) (H:Hp) (Q:Bool->Hp->Prop),aG X ċ σ H s->t σ H Q->aaT (aaX X.prog X.w) X.A (isTrue e X.env (adM e X.env)) (TP X ċ σ Q) X.xe s
def PW (X:Cx)(e:ab6)(t:TT):Prop:=
 ∀(ω:Sem aao) (ċ:List (aaL×Obj)) (s:aaE) (σ:St) (H:Hp) (Q:Bool->Hp->Prop),aG X ċ σ H s->t σ H Q->aaT (aaX X.prog X.w) X.A (isTrue e X.env ω) (TP X ċ σ Q) X.xe s
theorem PW.pt {X:Cx}{e:ab6}{t:TT}(h:PW X e t):PT X e t:=h _
def PA (X:Cx)(es:List ab6)(t:TA):Prop:=
 ∀(pos:Pos) (ċ:List (aaL×Obj)) (s:aaE) (σ:St) (H:Hp) (Q:List V->Hp->Prop),aG X ċ σ H s->t σ H Q->aaT (aaX X.prog X.w) X.A (spliced (acy pos (aaN es X.env))) (AP X ċ σ Q) X.xe s
def PS (X:Cx)(st:adN)(t:TS):Prop:=
 ∀(ċ:List (aaL×Obj)) (s:aaE) (σ:St) (H:Hp) (D:n9),aG X ċ σ H s->t D σ H->aaT (aaX X.prog X.w) X.A (exec st X.env) (SP X ċ D) X.xe s
def wY (X:Cx)(st:List adN)(t:TS):Prop:=
 ∀(ċ:List (aaL×Obj)) (s:aaE) (σ:St) (H:Hp) (D:n9),aG X ċ σ H s->t D σ H->aaT (aaX X.prog X.w) X.A (execs st X.env) (SP X ċ D) X.xe s
def fg {α:Type}{t:Sem α}{Q Q':α->aaE->Prop}{A:abd}(h:aaT M A t Q E s)(hQ:∀a s,Q a s->Q' a s):aaT M A t Q' E s:=abr h hQ λ_ _ x=>x
end L2
variable {X:L2.Cx}{σ:L2.St}{te:L2.TE}
namespace L2
section
def Ry (i:Nat):TE:=λσ H Q=>∃v,σ[i]? = some (some v)/\Q v H
def tC (v:V):TE:=λ_ H Q=>Q v H
theorem iV {pos:Pos}(hN:X.N[i]? = some x)(hv:EM X.env.scope x)(hd:(x==("__debug__":Str))=false:=by decide)(nE:(x==("__classdict__":Str))=false:=by decide):PE X (.Name x pos) (Ry i):=by
 intro ċ s σ H Q I h;obtain⟨v,e,h⟩:=h;obtain⟨m,hn,hl⟩:=I.loc;obtain⟨u,r,l⟩:=hl i x v hN e hv;have fin:EP X ċ σ Q u s:=⟨v,H,I,r,h⟩;rcases l with⟨hk,hm⟩|⟨hk,c,hc,GJ⟩
 ·exact wpAny_Name (wpAny_loadName_local I.ok.kind hk hn hm fin) hd
 ·rcases hk with hk|hk
  ·exact wpAny_Name (wpAny_loadName_cell I.ok.kind hk hc GJ fin) hd
  ·exact wpAny_Name (wpAny_loadName_free I.ok.kind hk hc GJ fin nE) hd
def CD {i j pos}:PE X (.Constant (.int i) j pos) (tC (.int i)):=λ_ _ _ H _ I h=>wpAny_Constant_int ⟨.int i,H,I.tok _,⟨_,rfl⟩,h⟩
def UM {b j pos}:PE X (.Constant (.bool b) j pos) (tC (.bl b)):=λ_ _ _ H _ I h=>Constant_bool ⟨.bl b,H,I,rfl,h⟩
def Rz {j pos}:PE X (.Constant .none j pos) (tC .non):=λ_ _ _ H _ I h=>Constant_none ⟨.non,H,I,rfl,h⟩
def RA {x j pos}:PE X (.Constant (.str x) j pos) (tC (.str x)):=λ_ _ _ H _ I h=>Calls.Constant_str ⟨.str x,H,I.tok _,⟨_,rfl⟩,h⟩
def Gl (X:Cx)(x:Str):Prop:=X.env.kindOf x=some .globalImplicit
theorem MY {u:aao}{pos:Pos}(I:aG X ċ σ H s)(hg:Gl X x)(hm:X.mg x=some u)(h:Q u s)(hd:(x==("__debug__":Str))=false:=by decide):aaT (aaX X.prog X.w) X.A (adM (.Name x pos) X.env) Q E s:=
 afl I.ok.kind hg (Calls.loadGlobal_global (by rw[I.ok.glob];exact I.mod.glob.keeps I.bk) hm h) hd
theorem ur {u:aao}{pos:Pos}(I:aG X ċ σ H s)(hg:Gl X x)(hm:X.mg x=none)(hv:abk x=some u)(h:Q u s)(hn:x≠"__name__":=by decide)(hd:(x==("__debug__":Str))=false:=by decide):aaT (aaX X.prog X.w) X.A (adM (.Name x pos) X.env) Q E s:=by
 obtain⟨mb,h1,h2⟩:=I.mod.blt;exact afl I.ok.kind hg (Calls.loadGlobal_builtin (by rw[I.ok.glob];exact I.mod.glob.keeps I.bk) hm (by rw[I.ok.blt];exact h1.keeps I.bk) ((h2 x hn).trans hv) h) hd
def MZ {u:aao}{pos:Pos}(hg:Gl X x)(hm:X.mg x=none)(hv:abk x=some u)(r:aZ v u)(hn:x≠"__name__":=by decide)(hd:(x==("__debug__":Str))=false:=by decide):PE X (.Name x pos) (tC v):=
 λ_ _ _ H _ I h=>ur I hg hm hv ⟨v,H,I,r,h⟩ hn hd
variable {a b:ab6}{ta tb:TE}{pos:Pos}
def tB (t:TE):TT:=λσ H Q=>t σ H λx H1=>∃c,x=.bl c/\Q c H1
theorem RB {e:ab6}{t:TE}(h:PE X e t)(he:∀ω,isTrue e X.env ω=(do let v ←ω;standAt e.pos;holding [v] (truthy v)):=by intro _;rfl):PT X e (tB t):=by
 intro ċ s σ H Q I hw;refine isTrue_plain (fg (h ċ s σ H _ I hw) λv s1 ⟨x,H1,I1,r1,q1⟩=>?_) (he _);obtain⟨d,rfl,q⟩:=q1;cases r1;exact adE ⟨H1,I1,q⟩
variable {tA Ú:TT}{rest:List ab6}
def UN (t u:TT):TT:=λσ H Q=>t σ H λc H1=>if c=true then u σ H1 Q else Q false H1
def Zx (t u:TT):TT:=λσ H Q=>t σ H λc H1=>if c=true then Q true H1 else u σ H1 Q
def XX (t:TT):TT:=λσ H Q=>t σ H λc H1=>Q (!c) H1
theorem M5 (ha:PT X a tA):PW X (.BoolOp .And [a] pos) tA:=by
 intro wh ċ s σ H Q I h;refine isTrue_and (fg (ha ċ s σ H Q I h) λc s1 e=>?_);cases c with
 |true=>exact isTrue_and_nil e
 |false=>exact e
theorem RC (ha:PT X a tA):PW X (.BoolOp .Or [a] pos) tA:=by
 intro wh ċ s σ H Q I h;refine isTrue_or (fg (ha ċ s σ H Q I h) λc s1 e=>?_);grind[isTrue_or_nil]
theorem RD (ha:PT X a tA)(hb:PW X (.BoolOp .And (b::rest) pos) Ú):PW X (.BoolOp .And (a::b::rest) pos) (UN tA Ú):=by
 intro wh ċ s σ H Q I h;refine isTrue_and (fg (ha ċ s σ H _ I h) λc s1 ⟨H1,I1,q1⟩=>?_);cases c with
 |true=>exact hb wh ċ s1 σ H1 Q I1 q1
 |false=>exact⟨H1,I1,q1⟩
theorem UO (ha:PT X a tA)(hb:PW X (.BoolOp .Or (b::rest) pos) Ú):PW X (.BoolOp .Or (a::b::rest) pos) (Zx tA Ú):=by
 intro wh ċ s σ H Q I h;refine isTrue_or (fg (ha ċ s σ H _ I h) λc s1 ⟨H1,I1,q1⟩=>?_);cases c with
 |true=>exact⟨H1,I1,q1⟩
 |false=>exact hb wh ċ s1 σ H1 Q I1 q1
theorem RE (ha:PT X a tA):PT X (.UnaryOp .Not a pos) (XX tA):=by
 intro ċ s σ H Q I h;exact isTrue_not (ha ċ s σ H _ I h)
def tIf (t:TT)(ta tb:TE):TE:=λσ H Q=>t σ H λc H1=>if c=true then ta σ H1 Q else tb σ H1 Q
theorem Io {c:ab6}(hc:PT X c tA)(ha:PE X a ta)(hb:PE X b tb):PE X (.IfExp c a b pos) (tIf tA ta tb):=by
 intro ċ s σ H Q I h;refine wpAny_IfExp (fg (hc ċ s σ H _ I h) λd s1 ⟨H1,I1,q1⟩=>?_);cases d with
 |true=>exact ha ċ s1 σ H1 Q I1 q1
 |false=>exact hb ċ s1 σ H1 Q I1 q1
end
end L2
namespace L2
def g_ (K:aam)(H:Hp)(a:aaL)(xs:List V):Prop:=
 Rd H a (.lst xs) \/
  ∃(o:Obj) (az:Array aao) (n:Nat),K.lookup a=some o/\o.cls=.type "list"/\o.dict=none/\o.data=.seq az n/\az.size<=aaf/\bf xs az.toList
def iG (K:aam)(H:Hp)(a:aaL)(xs:List V):Prop:=
 Rd H a (.tup xs) \/
  ∃(o:Obj) (az:Array aao) (n:Nat),K.lookup a=some o/\o.cls=.type "tuple"/\o.data=.seq az n/\az.size<=aaf/\bf xs az.toList
noncomputable def XY:aao->Option V
 | .none=>some .non
 | .bool b=>some (.bl b)
 | .int i _=>some (.int i)
 | .str x _=>some (.str x)
 | .bytes b _=>some (.byt b)
 | .float b _=>some (.flt b)
 | .ref a=>some (.ref a)
 | .type n=>some (.ty n)
 |_=>none
theorem aZ.abs {x:V}{u:aao}(r:aZ x u):XY u=some x:=by
 cases x with
 |non=>cases r;rfl
 |bl _=>cases r;rfl
 |int _=>obtain⟨t,rfl⟩:=r;rfl
 |str _=>obtain⟨t,rfl⟩:=r;rfl
 |byt _=>obtain⟨t,rfl⟩:=r;rfl
 |flt _=>obtain⟨t,rfl⟩:=r;rfl
 |ref _=>cases r;rfl
 |ty _=>cases r;rfl
theorem aZ.inj {x:V}{u:aao}(r:aZ x u)(q:aZ y u):x=y:=aaP (r.abs.symm.trans q.abs)
theorem bf.inj:∀{xs ys:List V} {us:List aao},bf xs us->bf ys us->xs=ys
 |_,_,_,.nil,.nil=>rfl
 |_,_,_,.cons r t,.cons r' t'=>by rw[r.inj r',bf.inj t t']
section
variable {ys:List V}
theorem g_.of (h:H a=some (.lst xs)):g_ K H a xs:=.inl (.inl h)
theorem iG.of (h:H a=some (.tup xs)):iG K H a xs:=.inl (.inl h)
theorem aG.list (I:aG X ċ σ H s)(h:g_ X.K H a xs):∃az:List aao,bf xs az/\PlainL s.heap a az.toArray/\xs.length<=aaf:=by
 rcases h with h|⟨o,az,n,hk,hc,hd,hs,hz,r⟩
 ·obtain⟨z,az,n,r,e⟩:=h.ok I.hok;exact⟨az,r,⟨_,n,e,rfl,rfl,rfl⟩,z⟩
 ·refine⟨az.toList,r,⟨o,n,I.kIn a o hk,hc,hd,by simpa using hs⟩,?_⟩;have e:=r.length;simp[*]
theorem aG.tuple (I:aG X ċ σ H s)(h:iG X.K H a xs):∃az:List aao,bf xs az/\IsTup s.heap a az.toArray/\xs.length<=aaf:=by
 rcases h with h|⟨o,az,n,hk,hc,hs,hz,r⟩
 ·obtain⟨z,az,r,p,_⟩:=h.ok I.hok;exact⟨az,r,p,z⟩
 ·refine⟨az.toList,r,⟨o,I.kIn a o hk,hc,n,by simpa using hs⟩,?_⟩;have e:=r.length;simp only[aaY] at e;simp[*]
theorem aG.list_inj (I:aG X ċ σ H s)(h:g_ X.K H a xs)(h':g_ X.K H a ys):xs=ys:=by
 obtain⟨az,r,⟨o,n,e,_,_,d⟩,_⟩:=I.list h;obtain⟨tR,r',⟨o',n',e',_,_,d'⟩,_⟩:=I.list h';rw[e] at e';cases e';rw[d] at d';injection d' with d1 _
 have:=by simpa using congrArg Array.toList d1
 subst this;exact r.inj r'
theorem aG.tuple_inj (I:aG X ċ σ H s)(h:iG X.K H a xs)(h':iG X.K H a ys):xs=ys:=by
 obtain⟨az,r,⟨o,e,_,n,d⟩,_⟩:=I.tuple h;obtain⟨tR,r',⟨o',e',_,n',d'⟩,_⟩:=I.tuple h';rw[e] at e';cases e';rw[d] at d';injection d' with d1 _
 have:=by simpa using congrArg Array.toList d1
 subst this;exact r.inj r'
end
abbrev Cx.wish (X:Cx)(E:aao->aaE->Prop):Cx:={X with xe:=E}
abbrev Cx.nox (X:Cx):Cx:=X.wish λ_ _=>False
theorem Cx.Ok.wish (ok:X.Ok)(E:aao->aaE->Prop):(X.wish E).Ok:=
 ⟨ok.mod,ok.kind,ok.glob,ok.blt,ok.above,ok.inj,ok.has,ok.cab,ok.hd,ok.frames,ok.stk,ok.exf,ok.bs,ok.bsz,ok.noex,ok.exfs,ok.funs,ok.frf⟩
theorem Cx.Ok.unwish (ok:(X.wish E).Ok):X.Ok:=
 ⟨ok.mod,ok.kind,ok.glob,ok.blt,ok.above,ok.inj,ok.has,ok.cab,ok.hd,ok.frames,ok.stk,ok.exf,ok.bs,ok.bsz,ok.noex,ok.exfs,ok.funs,ok.frf⟩
theorem aG.wish (I:aG X ċ σ H s)(E:aao->aaE->Prop):aG (X.wish E) ċ σ H s:=⟨I.ok.wish E,I.os,I.bare,I.base,I.loc,I.cell,I.free,I.freeC,I.pin,I.hok,I.len⟩
theorem aG.unwish (I:aG (X.wish E) ċ σ H s):aG X ċ σ H s:=⟨I.ok.unwish,I.os,I.bare,I.base,I.loc,I.cell,I.free,I.freeC,I.pin,I.hok,I.len⟩
theorem SP.unwish {D:n9}{f:Flow}{s':aaE}(h:SP (X.wish E) ċ D f s'):SP X ċ D f s':=by
 cases f with
 |next=>obtain⟨ζ,H',I,q⟩:=h;exact⟨ζ,H',I.unwish,q⟩
 |brk=>obtain⟨ζ,H',I,q⟩:=h;exact⟨ζ,H',I.unwish,q⟩
 |cont=>obtain⟨ζ,H',I,q⟩:=h;exact⟨ζ,H',I.unwish,q⟩
 |ret u=>obtain⟨v,ζ,H',I,r,q⟩:=h;exact⟨v,ζ,H',I.unwish,r,q⟩
theorem wY.nox {st:List adN}{t:TS}(h:wY X.nox st t):wY X st t:=λċ s σ H D I hw=>
 abr (h ċ s σ H D (I.wish _) hw) (λ_ _ q=>q.unwish) λ_ _ z=>adF z
section
variable {rest:List adN}{t u:TS}{e:ab6}{pos:Pos}
def UP:TS:=λD σ H=>D.nx σ H
def XZ (t u:TS):TS:=λD σ H=>t {D with nx:=u D} σ H
def EN:wY X [] UP:=λ_ _ σ H _ I h=>afb ⟨σ,H,I,h⟩
theorem Aw (h1:PS X st t)(h2:wY X rest u):wY X (st::rest) (XZ t u):=by
 intro ċ s σ H D I h;refine wpAny_execs_cons (fg (h1 ċ s σ H _ I h) λf s1 q=>?_);cases f with
 |next=>
  obtain⟨ζ,H',I',q⟩:=q;exact h2 ċ s1 ζ H' D I' q
 |ret v=>exact q
 |brk=>exact q
 |cont=>exact q
theorem EO (h1:PS X st t):wY X [st] t:=by
 intro ċ s σ H D I h;refine wpAny_execs_cons (fg (h1 ċ s σ H D I h) λf s1 q=>?_);cases f with
 |next=>exact afb q
 |ret v=>exact q
 |brk=>exact q
 |cont=>exact q
theorem aG.quiet (I:aG X ċ σ H s):interactive X.env=false:=by simp[interactive,I.ok.kind]
def UQ (te:TE):TS:=λD σ H=>te σ H λ_ H1=>D.nx σ H1
theorem ER (he:PE X e te)(hs:adO e none pos.line X.env=pure false:=by rfl):PS X (.Expr e pos) (UQ te):=by
 intro ċ s σ H D I h;exact wpAny_Expr_any (fg (he ċ s σ H _ I h) λv s1 ⟨x,H1,I1,r1,q1⟩=>⟨σ,H1,I1,q1⟩) I.quiet hs
def X0 (te:TE):TS:=λD σ H=>te σ H D.rt
theorem CF (he:PE X e te):PS X (.Return (some e) pos) (X0 te):=by
 intro ċ s σ H D I h;exact wpAny_Return_some (fg (he ċ s σ H _ I h) λv s1 ⟨x,H1,I1,r1,q1⟩=>⟨x,σ,H1,I1,r1,q1⟩)
def X1 (c:TT)(t u:TS):TS:=λD σ H=>c σ H λb H1=>if b=true then t D σ H1 else u D σ H1
theorem PB {c:ab6}{a b:List adN}{tc:TT}(hc:PT X c tc)(ha:wY X a t)(hb:wY X b u):PS X (.If c a b pos) (X1 tc t u):=by
 intro ċ s σ H D I h;refine wpAny_If (fg (hc ċ s σ H _ I h) λd s1 ⟨H1,I1,q1⟩=>?_);cases d with
 |true=>exact ha ċ s1 σ H1 D I1 q1
 |false=>exact hb ċ s1 σ H1 D I1 q1
end
abbrev TG:=V->St->Hp->(St->Hp->Prop)->Prop
abbrev M6:=List V->St->Hp->(St->Hp->Prop)->Prop
def PG (X:Cx)(wA:ab6)(t:TG):Prop:=
 ∀(ċ:List (aaL×Obj)) (s:aaE) (σ:St) (H:Hp) (v:V) (u:aao) (Q:St->Hp->Prop),aG X ċ σ H s->aZ v u->t v σ H Q->
  aaT (aaX X.prog X.w) X.A (assign wA X.env u) (λ_ s'=>∃ζ H',aG X ċ ζ H' s'/\Q ζ H') X.xe s
def PD (X:Cx)(ts:List ab6)(t:M6):Prop:=
 ∀(ċ:List (aaL×Obj)) (s:aaE) (σ:St) (H:Hp) (vs:List V) (us:List aao) (Q:St->Hp->Prop),aG X ċ σ H s->bf vs us->t vs σ H Q->
  aaT (aaX X.prog X.w) X.A (assignInOrder ((acR ts X.env).map (·.2)) us) (λ_ s'=>∃ζ H',aG X ċ ζ H' s'/\Q ζ H') X.xe s
abbrev RF:=V->V->V->Hp->(Hp->Prop)->Prop
def UR (X:Cx)(t:RF):Prop:=
 ∀(ċ:List (aaL×Obj)) (s:aaE) (σ:St) (H:Hp) (o i v:V) (ov iv u:aao) (Q:Hp->Prop),aG X ċ σ H s->aZ o ov->aZ i iv->aZ v u->t o i v H Q->
  aaT (aaX X.prog X.w) X.A (setItem ov iv u) (λ_ s'=>∃H',aG X ċ σ H' s'/\Q H') X.xe s
section
variable {pos:Pos}
def Ax (i:Nat):TG:=λv σ H Q=>Q (σ.set i (some v)) H
theorem M7 (hN:X.N.Nodup)(hi:X.N[i]? = some x)(hx:MX X.env.scope x)(hf:X.fn x=true\/X.env.scope.names.lookup x=some .local:=by first|exact .inl rfl|exact .inr rfl|assumption):PG X (.Name x pos) (Ax i):=by
 intro ċ s σ H v u Q I r h;exact wpAny_assign_Name (oK I hN hi hx r (λs' I'=>⟨_,H,I',h⟩) hf)
def X2:M6:=λvs σ H Q=>vs=[]/\Q σ H
def US (t:TG)(u:M6):M6:=λvs σ H Q=>∃v r,vs=v::r/\t v σ H λζ H'=>u r ζ H' Q
theorem M8:PD X [] X2:=by
 intro ċ s σ H vs us Q I r h;obtain⟨e,h⟩:=h;exact assignInOrder_nil ⟨σ,H,I,h⟩
theorem Iq {e:ab6}{es:List ab6}{t:TG}{u:M6}(h1:PG X e t)(h2:PD X es u)
  (hs:(acR (e::es) X.env).map (·.2)=assign e X.env::(acR es X.env).map (·.2):=by rfl):PD X (e::es) (US t u):=by
 intro ċ s σ H vs us Q I r h;obtain⟨v,vr,e1,h⟩:=h;subst e1;cases r with
 |cons r rr=>
  rw[hs];refine afq (fg (h1 ċ s σ H _ _ _ I r h) λ_ s1 ⟨Â,H1,I1,q1⟩=>?_);exact h2 ċ s1 Â H1 _ _ Q I1 rr q1
def X3 (K:aam)(n:Nat)(t:M6):TG:=λv σ H Q=>∃a xs,v=.ref a/\iG K H a xs/\xs.length=n/\t xs σ H Q
theorem RG {es:List ab6}{t:M6}(hc:X.calm=true)(h:PD X es t)(hn:(acR es X.env).length=n:=by rfl)(YW:(acR es X.env).findIdx? (·.1)=none:=by rfl):PG X (.Tuple es k pos) (X3 X.K n t):=by
 intro ċ s σ H v u Q I r hw;obtain⟨a,xs,e1,hq,hl,hw⟩:=hw;subst e1;cases r;obtain⟨az,rv,ht,hz⟩:=I.tuple hq;refine assign_Tuple_tuple (I.ok.hd hc) ht (by simp[hn,←hl,rv.length]) YW λh' hx=>?_;have I1:=I.kept (t':=s.toks) λb o e=>hx b o (aaW (aaF e)) e;exact h ċ _ σ H xs _ Q I1 (by simpa using rv) hw
def X4 (to ti:TE)(t:RF):TG:=λv σ H Q=>to σ H λo H1=>ti σ H1 λi H2=>t o i v H2 λH3=>Q σ H3
theorem RH {o i:ab6}{to ti:TE}{t:RF}(ho:PE X o to)(hi:PE X i ti)(hs:UR X t)
  (ha:∀v,assign (.Subscript o i pos) X.env v=(do
   let ov ←holding [v] (adM o X.env)
   let iv ←holding [v,ov] (adM i X.env)
   standAt pos
   holding [v,ov,iv] (setItem ov iv v)
   release [v,ov,iv] []):=by intro _;rfl):PG X (.Subscript o i pos) (X4 to ti t):=by
 intro ċ s σ H v u Q I r h;refine aab (abx (fg (ho ċ s σ H _ I h) λov s1 ⟨x,H1,I1,r1,q1⟩=>?_));refine aab (abx (fg (hi ċ s1 σ H1 _ I1 q1) λiv s2 ⟨y,H2,I2,r2,q2⟩=>?_));refine aab (ae4 (aab (abx (fg (hs ċ s2 σ H2 x y v ov iv u _ I2 r1 r2 r q2) λ_ s3 ⟨H3,I3,q3⟩=>?_))));exact wpAny_release ⟨σ,H3,I3,q3⟩
def Ir (te:TE)(g:TG):TS:=λD σ H=>te σ H λx H1=>g x σ H1 D.nx
theorem Iu {e:ab6}{g:TG}(he:PE X e te)(hg:PG X tg g)(hs:ae5 [tg] e pos.line X.env=pure false:=by rfl)(hw:ae6 [tg] e X.env=pure none:=by rfl)(h1:(acR [tg] X.env).map (·.2)=[assign tg X.env]:=by rfl):PS X (.Assign [tg] e pos) (Ir te g):=by
 intro ċ s σ H D I h;refine wpAny_Assign_stores (fg (he ċ s σ H _ I h) λv s1 ⟨x,H1,I1,r1,q1⟩=>?_) hs hw;rw[h1];exact fg (hg ċ s1 σ H1 x v _ I1 r1 q1) λ_ s2 q=>q
theorem Iv {e:ab6}{jR:Pos}(hN:X.N.Nodup)(hi:X.N[i]? = some x)(hx:MX X.env.scope x)(he:PE X e te)(hs:adO e (some (.Name x jR)) pos.line X.env=pure false:=by rfl)(hf:X.fn x=true\/X.env.scope.names.lookup x=some .local:=by first|exact .inl rfl|exact .inr rfl|assumption) :
  PS X (.Assign [.Name x jR] e pos) (Ir te (Ax i)):=by
 intro ċ s σ H D I h;refine wpAny_Assign_Name (fg (he ċ s σ H _ I h) λv s1 ⟨y,H1,I1,r1,q1⟩=>?_) hs;exact oK I1 hN hi hx r1 (λs2 I2=>⟨_,H1,I2,q1⟩) hf
def X5 (i j:Nat)(ta:TA):TS:=λD σ H=>ta σ H λvs H1=>∃v w,vs=[v,w]/\D.nx ((σ.set i (some v)).set j (some w)) H1
theorem RI {y:Str}{a b:ab6}{ta:TA}{px py pt:Pos}{kt k2 pt2}(hc:X.calm=true)(hN:X.N.Nodup)(hi:X.N[i]? = some x)(hj:X.N[j]? = some y)(Ac:i≠j)(hx:X.env.scope.names.lookup x=some .local)(hy:X.env.scope.names.lookup y=some .local)(ha:PA X [a,b] ta)(hw:ae6 [.Tuple [.Name x px,.Name y py] kt pt] (.Tuple [a,b] k2 pt2) X.env=pure (some [x,y]))(hs:ae5 [.Tuple [.Name x px,.Name y py] kt pt] (.Tuple [a,b] k2 pt2) pos.line X.env=pure false:=by rfl) :
  PS X (.Assign [.Tuple [.Name x px,.Name y py] kt pt] (.Tuple [a,b] k2 pt2) pos) (X5 i j ta):=by
 intro ċ s σ H D I h;refine aab (ae4 ?_);refine aab (aah ?_);refine aab (Tuple_ (fg (ha _ ċ s σ H _ I h) λus s1 ⟨vs,H1,I1,r1,q1⟩=>?_));obtain⟨v,w,e1,q1⟩:=q1;subst e1;obtain⟨u1,u2,rfl,rv,Ct⟩:∃u1 u2,us=[u1,u2]/\aZ v u1/\aZ w u2:=by
  cases r1 with
  |cons p q=>
   cases q with
   |cons p' q'=>
    cases q';exact⟨_,_,rfl,p,p'⟩
 refine abc ?_ (by show 2<=aaf;decide);have I2:aG X ċ σ H1 {s1 with heap:=s1.heap.push {cls:=.type "tuple",data:=.seq [u1,u2].toArray}}:=I1.kept λb o e=>aak _ e;rw[hw];refine aab (aah ?_);refine aab (ae9 (aab (unpackItems_tuple (items:=#[u1,u2]) (I.ok.hd hc) (IsTup.new _ _) λh' MS=>?_)));have I3:=I2.kept (t':=s1.toks) λb o e=>MS b o (aaW (aaF e)) e;refine aab (afq (wpAny_bindName (oK I3 hN hj (.inl hy) Ct (λs2 I4=>?_) (.inr hy))));refine afq (wpAny_bindName (oK I4 hN hi (.inl hx) rv (λs3 I5=>assignInOrder_nil (aah ?_)) (.inr hx)));rw[List.set_comm _ _ (Ne.symm Ac)] at I5;exact⟨_,H1,I5,q1⟩
end
section
variable {pos:Pos}
def RJ (c:TT)(tb:TS):TS:=λD σ H=>∃W:Nat->St->Hp->Prop,(∃m,W m σ H)/\∀m σ H,W m σ H->
 c σ H λb H1=>if b=true then ∃N:St->Hp->Prop,(∀ζ H',N ζ H'->∃m',m'<m/\W m' ζ H')/\tb {D with nx:=N,ct:=N,bk:=D.nx} σ H1 else D.nx σ H1
theorem Iw {c:ab6}{tc:TT}{tb:TS}(hp:afX (aaX X.prog X.w) X.A X.env X.xe)(hc:PT X c tc)(hb:wY X body tb):PS X (.While c body [] pos) (RJ tc tb):=by
 intro ċ s σ H D I h;obtain⟨W,⟨m0,w0⟩,turn⟩:=h;refine wpAny_While (codeAny_whileLoop (λn s'=>∃ζ H',aG X ċ ζ H' s'/\W n ζ H') ?_ m0 ⟨σ,H,I,w0⟩);rintro n s1 ⟨Â,H1,I1,w1⟩;refine acS hp (fg (hc ċ s1 Â H1 _ I1 (turn n Â H1 w1)) λb s2 ⟨H2,I2,q2⟩=>?_);cases b with
 |true=>
  obtain⟨N,hN,q2⟩:=q2;refine acS hp (fg (hb ċ s2 Â H2 _ I2 q2) λf s3 q3=>?_);cases f with
  |next=>
   obtain⟨Ο,H3,I3,n3⟩:=q3;obtain⟨m',hm,w3⟩:=hN Ο H3 n3;exact⟨m',hm,Ο,H3,I3,w3⟩
  |cont=>
   obtain⟨Ο,H3,I3,n3⟩:=q3;obtain⟨m',hm,w3⟩:=hN Ο H3 n3;exact⟨m',hm,Ο,H3,I3,w3⟩
  |brk=>exact q3
  |ret v=>exact q3
 |false=>
  exact afb ⟨Â,H2,I2,q2⟩
end
structure It where
 go:Nat->Hp->Prop
 yld:Nat->Hp->V->Hp->Prop
 stop:Nat->Hp->Prop
def sS (X:Cx)(ċ:List (aaL×Obj))(H:Hp)(b:aaL):Prop:=
 H b=none/\b≠X.env.locals/\b∉X.fs/\(b∈X.ex\/X.s₀.heap.objs.size<=b)/\(∀x c,X.env.cells.lookup x=some c->c≠b)/\∀p∈X.pn++ċ,p.1≠b
theorem aG.fpOk (I:aG X ċ σ H s)(hb:s.heap.objs.size<=b)(hn:H' b=none):sS X ċ H' b:=by
 refine⟨hn,acZ (aaZ I.lt hb),I.nofs hb,.inr (abl I.sz hb),λx c e z=>?_,λp hp z=>?_⟩
 ·obtain⟨v,q⟩:=I.cell x c e;exact absurd (aaZ q.lt (by rw[z];exact hb)) (abC _)
 ·exact absurd (aaZ (aaF (I.pin p hp).1) (by rw[z];exact hb)) (abC _)
structure CG (P:adf)(w:ac2)(K:aam)(tg:ab6)(J:It)(fp:List aaL)(it:aaL)(tn:Nat->ac5->Prop):Prop where
 mem:it∈fp
 obj:∀i h,tn i h->∀b∈fp,∃o,h.get? b=some o/\∀v,o.data≠.cell v
 keep:∀i h h',tn i h->(∀b∈fp,∀o,h.get? b=some o->h'.get? b=some o)->tn i h'
 item:∀(X:Cx),X.prog=P->X.w=w->X.K=K->X.calm=true->∀(i:Nat) (ċ:List (aaL×Obj)) (s:aaE) (σ:St) (H:Hp) (E:aao->aaE->Prop),aG X ċ σ H s->(∀b∈fp,sS X ċ H b)->tn i s.heap->J.go i H->
  aaT (aaX P w) X.A (pyNext (.ref it)) (λr s1=>∃u,r=some u/\
   aaT (aaX P w) X.A (letOwnedTupleGo tg (.ref it) u) (λ_ s2=>∃x H',aG X ċ σ H' s2/\aZ x u/\J.yld i H x H'/\tn (i+1) s2.heap/\∀b∈fp,H' b=none) E s1) E s
 done:∀(X:Cx),X.prog=P->X.w=w->X.K=K->X.calm=true->∀(i:Nat) (ċ:List (aaL×Obj)) (s:aaE) (σ:St) (H:Hp) (E:aao->aaE->Prop),aG X ċ σ H s->(∀b∈fp,sS X ċ H b)->tn i s.heap->J.stop i H->
  aaT (aaX P w) X.A (pyNext (.ref it)) (λr s1=>r=none/\aG X ċ σ H s1) E s
 self:∀(A:abd) (i:Nat) (s:aaE) (Q:aao->aaE->Prop) (E:aao->aaE->Prop),tn i s.heap->Q (.ref it) s->aaT (aaX P w) A (pyIter (.ref it)) Q E s
abbrev TI:=St->Hp->(It->Hp->Prop)->Prop
def Zy (X:Cx)(ċ:List (aaL×Obj))(σ:St)(tg:ab6)(R:It->Hp->Prop)(XJ:aao)(s2:aaE):Prop:=
 ∃(it:aaL) (fp:List aaL) (tn:Nat->ac5->Prop) (J:It) (H':Hp),XJ=.ref it/\aG X ċ σ H' s2/\CG X.prog X.w X.K tg J fp it tn/\tn 0 s2.heap/\(∀b∈fp,sS X ċ H' b)/\R J H'
def PI (X:Cx)(tg iter:ab6)(wi:TI):Prop:=
 ∀(ċ:List (aaL×Obj)) (s:aaE) (σ:St) (H:Hp) (R:It->Hp->Prop),aG X ċ σ H s->wi σ H R->
  aaT (aaX X.prog X.w) X.A (adM iter X.env) (λv s1=>aaT (aaX X.prog X.w) X.A (pyIter v) (Zy X ċ σ tg R) X.xe s1) X.xe s
theorem Iy {A:abd}{u:aao}{o:Obj}{n:String}{vs:Array aao}{Q:Unit->aaE->Prop}(ho:s.heap.get? it=some o)(hc:o.cls=.type n)(hd:o.data=.fields vs)(hn:["enumerate","zip","dict_itemiterator","dict_reverseitemiterator","odict_iterator","itertools.zip_longest","itertools.pairwise"].contains n=false)(hQ:Q () s):aaT M A (letOwnedTupleGo tg (.ref it) u) Q E s:=by
  cases tg<;>first
    |exact aah hQ
    | (cases u<;>first
        |exact aah hQ
        | (refine aab (wpAny_load ho ?_)
           rw[hc,hd];show aaT M A (if (["enumerate","zip","dict_itemiterator","dict_reverseitemiterator","odict_iterator","itertools.zip_longest","itertools.pairwise"].contains n&&vs[0]? == some _)=true then _ else _) Q E s;rw[hV (by intro h;rw[hn] at h;cases h)];exact aah hQ))
noncomputable def Xl (K:aam)(a:aaL):It:=
 ⟨λi H=>∃xs x,g_ K H a xs/\xs[i]? = some x,λi H x H'=>H'=H/\∀xs,g_ K H a xs->xs[i]? = some x,λi H=>∃xs,g_ K H a xs/\xs.length<=i⟩
noncomputable def X6 (K:aam)(a:aaL):It:=
 ⟨λi H=>∃xs x,iG K H a xs/\xs[i]? = some x,λi H x H'=>H'=H/\∀xs,iG K H a xs->xs[i]? = some x,λi H=>∃xs,iG K H a xs/\xs.length<=i⟩
def Xm (lo:Int)(n:Nat):It:=⟨λi _=>i<n,λi H x H'=>H'=H/\x=.int (lo+i),λi _=>n<=i⟩
theorem GP (a it:aaL):CG P w K tg (Xl K a) [it] it (λi h=>h.IsListIter it a i) where
 mem:=by simp
 obj:=λi h st b hb=>by
  have e:=by simpa using hb
  subst e;obtain⟨o,e,c,d⟩:=st;simp[*]
 keep:=λi h h' st k=>st.at λo e=>k it (by simp) o e
 item:=by
  intro X hP hw hK hc i ċ s σ H E I hf st hg;subst hP hw hK;obtain⟨xs,x,hq,hx⟩:=hg;obtain⟨az,rv,p,hz⟩:=I.list hq;obtain⟨u,hu,ru⟩:=rv.get hx;obtain⟨f0,f1,f2,f3,f4,f5⟩:=hf it (by simp);refine wpAny_pyNext_list_item st p.isList (by simpa using hu) λh' cN sb=>?_;have I1:=I.turned (t':=s.toks) (λb o hb e=>(sb.2 b hb).trans e) f0 f1 f3 f4 f5;obtain⟨o,e,c,d⟩:=id cN;exact⟨u,rfl,Iy e c d (by decide) ⟨x,H,I1,ru,⟨rfl,λys hy=>by rw[I.list_inj hy hq];exact hx⟩,cN,λb hb=>(hf b hb).1⟩⟩
 done:=by
  intro X hP hw hK hc i ċ s σ H E I hf st hg;subst hP hw hK;obtain⟨xs,hq,hx⟩:=hg;obtain⟨az,rv,p,hz⟩:=I.list hq;obtain⟨f0,f1,f2,f3,f4,f5⟩:=hf it (by simp);have hl:=rv.length;exact wpAny_pyNext_list_end (I.ok.hd hc) st p.isList (by simp;simp_all) λh' eb=>⟨rfl,I.turned (λb o hb e=>eb b o hb e) f0 f1 f3 f4 f5⟩
 self:=λ_ _ _ _ _ st h=>wpAny_pyIter_listiter st h
theorem CH (a it:aaL):CG P w K tg (X6 K a) [it] it (λi h=>h.IsTupleIter it a i) where
 mem:=by simp
 obj:=λi h st b hb=>by
  have e:=by simpa using hb
  subst e;obtain⟨o,e,c,d⟩:=st;grind
 keep:=λi h h' st k=>st.at λo e=>k it (by simp) o e
 item:=by
  intro X hP hw hK hc i ċ s σ H E I hf st hg;subst hP hw hK;obtain⟨xs,x,hq,hx⟩:=hg;obtain⟨az,rv,p,hz⟩:=I.tuple hq;obtain⟨u,hu,ru⟩:=rv.get hx;obtain⟨f0,f1,f2,f3,f4,f5⟩:=hf it (by simp);refine wpAny_pyNext_tuple_item st (p) (by simpa using hu) λh' cN sb=>?_;have I1:=I.turned (t':=s.toks) (λb o hb e=>(sb.2 b hb).trans e) f0 f1 f3 f4 f5;obtain⟨o,e,c,d⟩:=id cN;exact⟨u,rfl,Iy e c d (by decide) ⟨x,H,I1,ru,⟨rfl,λys hy=>by rw[I.tuple_inj hy hq];exact hx⟩,cN,λb hb=>(hf b hb).1⟩⟩
 done:=by
  intro X hP hw hK hc i ċ s σ H E I hf st hg;subst hP hw hK;obtain⟨xs,hq,hx⟩:=hg;obtain⟨az,rv,p,hz⟩:=I.tuple hq;obtain⟨f0,f1,f2,f3,f4,f5⟩:=hf it (by simp);have hl:=rv.length;exact wpAny_pyNext_tuple_end (I.ok.hd hc) st (p) (by simp;lia) λh' eb=>⟨rfl,I.turned (λb o hb e=>eb b o hb e) f0 f1 f3 f4 f5⟩
 self:=λ_ _ _ _ _ st h=>wpAny_pyIter_tupleiter st h
theorem CI (it:aaL)(lo:Int)(n:Nat):CG P w K tg (Xm lo n) [it] it (λi h=>IsRangeIter h it (lo+(i:Nat)*1) ((n:Int)-(i:Nat)) 1) where
 mem:=by simp
 obj:=λi h st b hb=>by
  have e:=by simpa using hb
  subst e;exact⟨_,st,λv z=>by
   have z' :=z;cases z'⟩
 keep:=λi h h' st k=>k it (by simp) _ st
 item:=by
  intro X hP hw hK hc i ċ s σ H E I hf st hg;subst hP hw hK;obtain⟨f0,f1,f2,f3,f4,f5⟩:=hf it (by simp);have W:=Walks.range (prog:=X.prog) (w:=X.w) (I.ok.hd hc) it lo 1 n;refine W.item i s _ _ hg st λv h' tk hv cN kk=>?_;obtain⟨t,rfl⟩:=hv;have I1:aG X ċ σ H {s with heap:=h',toks:=tk}:=I.turned (λb o hb e=>kk b o (by grind) e) f0 f1 f3 f4 f5;refine⟨_,rfl,Iy cN rfl rfl (by decide) ⟨.int _,H,I1,⟨t,?_⟩,⟨rfl,rfl⟩,cN,λb hb=>(hf b hb).1⟩⟩;lia
 done:=by
  intro X hP hw hK hc i ċ s σ H E I hf st hg;obtain⟨f0,f1,f2,f3,f4,f5⟩:=hf it (by simp);exact wpAny_pyNext_range_end (I.ok.hd hc) st (by have:n<=i:=hg;lia) λh' eb=>⟨rfl,I.turned (λb o hb e=>eb b o hb e) f0 f1 f3 f4 f5⟩
 self:=λ_ _ _ _ _ st h=>wpAny_pyIter_rangeiter st h
end L2
variable {wi:L2.TI}
namespace L2
def UT (K:aam)(tl:TE):TI:=λσ H R=>tl σ H λx H1=>∃a,x=.ref a/\(∃xs,g_ K H1 a xs)/\R (Xl K a) H1
def X7 (K:aam)(tl:TE):TI:=λσ H R=>tl σ H λx H1=>∃a,x=.ref a/\(∃xs,iG K H1 a xs)/\R (X6 K a) H1
theorem M9 {l:ab6}{tl:TE}(hl:PE X l tl):PI X tg l (UT X.K tl):=by
 intro ċ s σ H R I h;refine fg (hl ċ s σ H _ I h) λv s1 ⟨x,H1,I1,r1,q1⟩=>?_;obtain⟨a,e,⟨xs,hq⟩,q⟩:=q1;subst e;cases r1;obtain⟨az,rv,p,hz⟩:=I1.list hq;refine aeu p.isList ?_;refine⟨s1.heap.objs.size,[s1.heap.objs.size],_,_,H1,rfl,I1.kept λb o e=>aak _ e,GP a _,⟨_,aas _ rfl,rfl,rfl⟩,λb hb=>?_,q⟩;have e:=by simpa using hb
 subst e;exact I1.fpOk (aaq _) (I1.hok.fresh (aaq _))
theorem RK {l:ab6}{tl:TE}(hl:PE X l tl):PI X tg l (X7 X.K tl):=by
 intro ċ s σ H R I h;refine fg (hl ċ s σ H _ I h) λv s1 ⟨x,H1,I1,r1,q1⟩=>?_;obtain⟨a,e,⟨xs,hq⟩,q⟩:=q1;subst e;cases r1;obtain⟨az,rv,p,hz⟩:=I1.tuple hq;refine aeb (show s1.heap.IsTuple a _ from p) ?_;refine⟨s1.heap.objs.size,[s1.heap.objs.size],_,_,H1,rfl,I1.kept λb o e=>aak _ e,CH a _,⟨_,aas _ rfl,rfl,rfl⟩,λb hb=>?_,q⟩;have e:=by simpa using hb
 subst e;exact I1.fpOk (aaq _) (I1.hok.fresh (aaq _))
theorem Iz {R:It->Hp->Prop}{lo hi:Int}{t u v:Tok}{tk:Nat}(I:aG X ċ σ H s)(h1 : -(2 ^ 62)<=lo)(h2:lo<2 ^ 62)(h3 : -(2 ^ 62)<=hi)(h4:hi<2 ^ 62)(q:R (Xm lo (hi-lo).toNat) H):aaT (aaX X.prog X.w) X.A (pyIter (.ref s.heap.objs.size)) (Zy X ċ σ tg R) E {s with heap:=s.heap.push {cls:=.type "range",data:=.fields #[.int lo t,.int hi u,.int 1 v]},toks:=tk}:=by
 refine wpAny_pyIter_range (IsRange.new ..) (small_one h1 h2 h3 h4) ?_;have I1:aG X ċ σ H {s with heap:=s.heap.push {cls:=.type "range",data:=.fields #[.int lo t,.int hi u,.int 1 v]},toks:=tk}:=I.kept λb o e=>aak _ e;refine⟨(s.heap.push _).objs.size,[(s.heap.push _).objs.size],_,_,H,rfl,
  I1.kept λb o e=>aak _ e,CI _ lo _,?_,λb hb=>?_,q⟩
 ·have e1:lo+((0:Nat):Int)*1=lo:=by simp
  have e2:(((hi-lo).toNat:Nat):Int)-((0:Nat):Int)=aec lo hi 1:=by grind[rangeSize_one]
  rw[e1,e2];exact aas _ rfl
 ·have e:b=(s.heap.push {cls:=.type "range",data:=.fields #[.int lo t,.int hi u,.int 1 v]}).objs.size:=by grind
  subst e;exact I1.fpOk (aaq _) (I1.hok.fresh (aaq _))
def UU (ta:TA):TI:=λσ H R=>ta σ H λvs H1=>∃j:Int,vs=[.int j]/\ -(2 ^ 62)<=j/\j<2 ^ 62/\R (Xm 0 j.toNat) H1
theorem GQ {a:ab6}{ta:TA}{p pos:Pos}(hg:Gl X "range")(hm:X.mg "range"=none)(ha:PA X [a] ta)(hs:aaN [a] X.env=[(false,adM a X.env)]:=by rfl):PI X tg (.Call (.Name "range" p) [a] [] pos) (UU ta):=by
 intro ċ s σ H R I h;refine Call_ (ur I hg hm boot_range (adl (fg (ha pos ċ s σ H _ I h) λus s1 ⟨vs,H1,I1,r1,q1⟩=>?_) hs rfl));obtain⟨j,e,q1,q2,q⟩:=q1;subst e;cases r1 with
 |cons r rr=>
  cases rr;obtain⟨t,rfl⟩:=r;exact call_range_1 (Iz I1 (by lia) (by lia) q1 q2 (by simpa using q))
def X8 (wi:TI)(g:TG)(tb:TS):TS:=λD σ H=>wi σ H λJ H1=>∃W:Nat->Nat->St->Hp->Prop,(∃m,W 0 m σ H1)/\∀i m σ H,W i m σ H->
 (J.stop i H/\D.nx σ H)\/(J.go i H/\∃N:St->Hp->Prop,(∀ζ H',N ζ H'->∃m',m'<m/\W (i+1) m' ζ H')/\∀x H',J.yld i H x H'->g x σ H' λΖ H2=>tb {D with nx:=N,ct:=N,bk:=D.nx} Ζ H2)
def yz (fp:List aaL)(h:ac5):List (aaL×Obj):=fp.filterMap λb=>(h.get? b).map λo=>(b,o)
theorem k_ {o:Obj}(hb:b∈fp)(e:h.get? b=some o):(b,o)∈yz fp h:=afr.mpr ⟨b,hb,by rw[e];rfl⟩
theorem GR {p:aaL×Obj}(hp:p∈yz fp h):p.1∈fp/\h.get? p.1=some p.2:=by
 obtain⟨b,hb,e⟩:=afr.mp hp;cases q:h.get? b with
 |none=>grind
 |some o=>
  grind
theorem aG.pinned (I:aG X ċ σ H s)(hf:∀b∈fp,sS X ċ H b)(ho:∀b∈fp,∃o,s.heap.get? b=some o/\∀v,o.data≠.cell v):aG X (ċ++yz fp s.heap) σ H s:=
 I.pins_of λp hp=>(aaQ.mp hp).elim (λz=>I.pin p (aaM _ z)) λz=>by
  obtain⟨hb,e⟩:=GR z;obtain⟨f0,f1,f2,_⟩:=hf p.1 hb;obtain⟨o,e',d⟩:=ho p.1 hb;rw[e] at e';cases e';exact⟨e,f0,f1,f2,d⟩
theorem aG.unpinned {pl:List (aaL×Obj)}(I:aG X (ċ++pl) σ H s):aG X ċ σ H s:=I.pins_of λp hp=>I.pin p (aaM _ (abn _ hp))
theorem RL {g:TG}{tb:TS}{pos:Pos}(hp:afX (aaX X.prog X.w) X.A X.env X.xe)(hc:X.calm=true)(hi:PI X tg iter wi)(hg:PG X tg g)(hb:wY X body tb)(hs:∀x,ab3 iter X.env x=pure x:=by intro _;rfl):PS X (.For tg iter body [] pos) (X8 wi g tb):=by
 intro ċ s σ H D I h;refine wpAny_For (fg (hi ċ s σ H _ I h) λv s1 h1=>fg h1 λXJ s2 h2=>?_) hs;obtain⟨it,fp,tn,J,H2,e,I2,T,qm,f2,W,⟨m0,w0⟩,turn⟩:=h2;subst e;have T9:∀{H':Hp},(∀b∈fp,H' b=none)->∀b∈fp,sS X ċ H' b:=λhn b hb=>⟨hn b hb,(f2 b hb).2⟩;refine codeAny_forLoop_any (λn s'=>∃i ζ H',aG X ċ ζ H' s'/\tn i s'.heap/\(∀b∈fp,H' b=none)/\W i n ζ H') ?_ m0 ⟨0,σ,H2,I2,qm,λb hb=>(f2 b hb).1,w0⟩;rintro n s3 ⟨i,Ο,H3,I3,Ul,fr3,w3⟩;rcases turn i n Ο H3 w3 with⟨stop,qn⟩|⟨go,N,hN,step⟩
 ·refine acS hp (fg (T.done X rfl rfl rfl hc i ċ s3 Ο H3 X.xe I3 (T9 fr3) Ul stop) λr s4 ⟨hr,I4⟩=>?_);subst hr;exact afb ⟨Ο,H3,I4,qn⟩
 ·refine acS hp (fg (T.item X rfl rfl rfl hc i ċ s3 Ο H3 X.xe I3 (T9 fr3) Ul go) λr s4 ⟨u,hr,h4⟩=>?_);subst hr;refine acS hp (fg h4 λ_ s5 ⟨x,H5,I5,r5,y5,È,å⟩=>?_);have YX:=I5.pinned (T9 å) (T.obj _ _ È);refine acS hp (fg (hg _ s5 Ο H5 x u _ YX r5 (step x H5 y5)) λ_ s6 ⟨Û,H6,I6,q6⟩=>?_);refine acS hp (fg (hb _ s6 Û H6 _ I6 q6) λf s7 q7=>?_);have again:∀{Χ:St} {H7:Hp},aG X _ Χ H7 s7->N Χ H7->∃m,m<n/\∃i ζ H',aG X ċ ζ H' s7/\tn i _/\(∀b∈fp,H' b=none)/\W i m ζ H':=λ{Χ H7} I7 n7=>by
   obtain⟨m',hm,w7⟩:=hN Χ H7 n7;refine⟨m',hm,i+1,Χ,H7,I7.unpinned,T.keep _ _ _ È λb hb o e=>(I7.pin _ (aaM _ (aaM _ (k_ hb e)))).1,λb hb=>?_,w7⟩;obtain⟨o,e,d⟩:=T.obj _ _ È b hb;exact (I7.pin _ (aaM _ (aaM _ (k_ hb e)))).2.1
  cases f with
  |next=>obtain⟨Χ,H7,I7,n7⟩:=q7;exact again I7 n7
  |cont=>obtain⟨Χ,H7,I7,n7⟩:=q7;exact again I7 n7
  |brk=>obtain⟨Χ,H7,I7,q7⟩:=q7;exact⟨Χ,H7,I7.unpinned,q7⟩
  |ret v=>obtain⟨x7,Χ,H7,I7,r7,q7⟩:=q7;exact⟨x7,Χ,H7,I7.unpinned,r7,q7⟩
end L2
namespace L2
abbrev R2:=V->V->Hp->VK->Prop
def jT (X:Cx)(f:aao->aao->Sem aao)(r:R2):Prop:=
 ∀(ċ:List (aaL×Obj)) (s:aaE) (σ:St) (H:Hp) (x y:V) (v u:aao) (Q:VK),aG X ċ σ H s->aZ x v->aZ y u->r x y H Q->
  aaT (aaX X.prog X.w) X.A (f v u) (EP X ċ σ Q) X.xe s
def Xn (X:Cx)(f:aao->Sem aao)(r:V->Hp->VK->Prop):Prop:=
 ∀(ċ:List (aaL×Obj)) (s:aaE) (σ:St) (H:Hp) (x:V) (v:aao) (Q:VK),aG X ċ σ H s->aZ x v->r x H Q->
  aaT (aaX X.prog X.w) X.A (f v) (EP X ċ σ Q) X.xe s
def eW (X:Cx)(f:aao)(r:List V->Hp->VK->Prop):Prop:=
 ∀(ċ:List (aaL×Obj)) (s:aaE) (σ:St) (H:Hp) (xs:List V) (us:List aao) (Q:VK),aG X ċ σ H s->bf xs us->r xs H Q->
  aaT (aaX X.prog X.w) X.A (call f us) (EP X ċ σ Q) X.xe s
def UW (r:R2)(ta tb:TE):TE:=λσ H Q=>ta σ H λx H1=>tb σ H1 λy H2=>r x y H2 Q
def Zz (r:V->Hp->VK->Prop)(ta:TE):TE:=λσ H Q=>ta σ H λx H1=>r x H1 Q
def rI (C:Int->Int->Prop)(g:Int->Int->V):R2:=λx y H Q=>∃i j,x=.int i/\y=.int j/\C i j/\Q (g i j) H
def CJ (g:Int->Int->V):R2:=λx y H Q=>∃i j,x=.int i/\y=.int j/\Q (g i j) H
def rU (g:Int->V):V->Hp->VK->Prop:=λx H Q=>∃i,x=.int i/\Q (g i) H
section
variable {a b c:ab6}{ta tb tc:TE}{pos:Pos}
theorem RM (ha:PE X a ta)(hb:PE X b tb){R:V->V->Hp->Prop}(I:aG X ċ σ H s)(h:ta σ H λx H1=>tb σ H1 λy H2=>R x y H2){f:aao->aao->Sem aao}(hf:∀v u s2 x y H2,aG X ċ σ H2 s2->aZ x v->aZ y u->R x y H2->aaT (aaX X.prog X.w) X.A (f v u) Q X.xe s2) :
  aaT (aaX X.prog X.w) X.A (adM a X.env) (λv ξ=>aaT (aaX X.prog X.w) X.A (adM b X.env) (λu Ι=>aaT (aaX X.prog X.w) X.A (f v u) Q X.xe Ι) X.xe ξ) X.xe s:=by
 refine fg (ha ċ s σ H _ I h) λv s1 ⟨x,H1,I1,r1,q1⟩=>?_;refine fg (hb ċ s1 σ H1 _ I1 q1) λu s2 ⟨y,H2,I2,r2,q2⟩=>?_;exact hf v u s2 x y H2 I2 r1 r2 q2
theorem UX {op:Operator}{r:R2}(ho:jT X (acQ op) r)(ha:PE X a ta)(hb:PE X b tb):PE X (.BinOp a op b pos) (UW r ta tb):=by
 intro ċ s σ H Q I h;exact wpAny_BinOp (RM ha hb I h λv u s2 x y H2 I2 rx ry q=>ho ċ s2 σ H2 x y v u Q I2 rx ry q)
theorem PF {op:UnaryOp}{r:V->Hp->VK->Prop}(ho:Xn X (unaryOp op) r)(ha:PE X a ta):PE X (.UnaryOp op a pos) (Zz r ta):=by
 intro ċ s σ H Q I h;exact UnaryOp_ (fg (ha ċ s σ H _ I h) λv s1 ⟨x,H1,I1,r1,q1⟩=>ho ċ s1 σ H1 x v Q I1 r1 q1)
theorem Xo {f:aao->aao->Sem aao}{C:Int->Int->Prop}{g:Int->Int->Int}
  (rule:∀(i j:Int) (t u:Tok) (s:aaE) (Q:aao->aaE->Prop) (E:aao->aaE->Prop),C i j->Q (.int (g i j) s.toks) {s with toks:=s.toks+1}->aaT (aaX X.prog X.w) X.A (f (.int i t) (.int j u)) Q E s) :
  jT X f (rI C λi j=>.int (g i j)):=by
 intro ċ s σ H x y v u Q I rx ry h;obtain⟨i,j,rfl,rfl,hc,q⟩:=h;obtain⟨t,rfl⟩:=rx;obtain⟨t',rfl⟩:=ry;exact rule i j t t' s _ _ hc ⟨.int _,H,I.tok _,⟨_,rfl⟩,q⟩
theorem UY {f:aao->aao->Sem aao}{g:Int->Int->Int}
  (rule:∀(i j:Int) (t u:Tok) (s:aaE) (Q:aao->aaE->Prop) (E:aao->aaE->Prop),Q (.int (g i j) s.toks) {s with toks:=s.toks+1}->aaT (aaX X.prog X.w) X.A (f (.int i t) (.int j u)) Q E s) :
  jT X f (CJ λi j=>.int (g i j)):=by
 intro ċ s σ H x y v u Q I rx ry h;obtain⟨i,j,rfl,rfl,q⟩:=h;obtain⟨t,rfl⟩:=rx;obtain⟨t',rfl⟩:=ry;exact rule i j t t' s _ _ ⟨.int _,H,I.tok _,⟨_,rfl⟩,q⟩
theorem M_ {f:aao->aao->Sem aao}{g:Int->Int->Bool}
  (rule:∀(i j:Int) (t u:Tok) (s:aaE) (Q:aao->aaE->Prop) (E:aao->aaE->Prop),Q (.bool (g i j)) s->aaT (aaX X.prog X.w) X.A (f (.int i t) (.int j u)) Q E s) :
  jT X f (CJ λi j=>.bl (g i j)):=by
 intro ċ s σ H x y v u Q I rx ry h;obtain⟨i,j,rfl,rfl,q⟩:=h;obtain⟨t,rfl⟩:=rx;obtain⟨t',rfl⟩:=ry;exact rule i j t t' s _ _ ⟨.bl _,H,I,rfl,q⟩
def UZ (i j:Int):Prop:=0<=j/\j<=1000000/\i.natAbs<2 ^ 64
def Na (i j:Int):Prop:=(-(2 ^ 64)<i/\i<2 ^ 64)\/(-(2 ^ 64)<j/\j<2 ^ 64)
theorem Na.ok {i j:Int}(h:Na i j):IntMulOk i j:=by
 rcases h with⟨h1,h2⟩|⟨h1,h2⟩
 ·exact .of_left (intBits_le_64 h1 h2)
 ·exact .of_right (intBits_le_64 h1 h2)
def RN:jT X (acQ .Add) (CJ λi j=>.int (i+j)):=UY λ_ _ _ _ _ _ _ q=>add_int q
def uu:jT X (acQ .Sub) (CJ λi j=>.int (i-j)):=UY λ_ _ _ _ _ _ _ q=>sub_int q
def gA:jT X (acQ .Mult) (rI Na λi j=>.int (i*j)):=Xo λ_ _ _ _ _ _ _ hc q=>mul_int q hc.ok
theorem lY:jT X (acQ .Mod) (rI (λ_ j=>0<j) λi j=>.int (i % j)):=Xo λi j _ _ _ _ _ hc q=>by
 exact mod_int' (by lia) (by rw[Int.fmod_eq_emod_of_nonneg i (by lia)];exact q)
def IA:jT X (acQ .Pow) (rI UZ λi j=>.int (i ^ j.toNat)):=Xo λ_ _ _ _ _ _ _ hc q=>pow_int_small hc.1 hc.2.1 hc.2.2 q
theorem unI {f:aao->Sem aao}{g:Int->Int}
  (rule:∀(i:Int) (t:Tok) (s:aaE) (Q:aao->aaE->Prop) (E:aao->aaE->Prop),Q (.int (g i) s.toks) {s with toks:=s.toks+1}->aaT (aaX X.prog X.w) X.A (f (.int i t)) Q E s) :
  Xn X f (rU λi=>.int (g i)):=by
 intro ċ s σ H x v Q I rx h;obtain⟨i,rfl,q⟩:=h;obtain⟨t,rfl⟩:=rx;exact rule i t s _ _ ⟨.int _,H,I.tok _,⟨_,rfl⟩,q⟩
def CK:Xn X (unaryOp .USub) (rU λi=>.int (-i)):=unI λ_ _ _ _ _ q=>neg_int q
end
noncomputable def U0:V->V->Bool
 | .non,.non=>true|.non,.int _=>true|.int _,.non=>true|.non,.bl _=>true|.bl _,.non=>true|.non,.str _=>true|.str _,.non=>true
 | .int _,.int _=>true|.bl _,.bl _=>true|.str _,.str _=>true|.byt _,.byt _=>true
 | .int _,.str _=>true|.str _,.int _=>true|.bl _,.str _=>true|.str _,.bl _=>true
 |_,_=>false
def ZA:R2:=λx y H Q=>U0 x y=true/\Q (.bl (decide (x=y))) H
def ZC:R2:=λx y H Q=>U0 x y=true/\Q (.bl (!decide (x=y))) H
theorem tX {i j:Int}:decide (V.int i=V.int j)=(i==j):=by
 rw[abo];simp
theorem yA {i j:Bool}:decide (V.bl i=V.bl j)=(i==j):=by
 rw[abo];simp
theorem tY {i j:Str}:decide (V.str i=V.str j)=(i==j):=by
 rw[abo];simp
theorem ES {i j:Array UInt8}:decide (V.byt i=V.byt j)=(i.toList==j.toList):=by
 rw[abo];simp
section
variable {a b c:ab6}{ta tb tc:TE}{pos:Pos}
theorem bS {Q:VK}{k k':Bool}(I:aG X ċ σ H s)(q:Q (.bl k) H)(e:k=k'):EP X ċ σ Q (.bool k') s:=by
 subst e;exact⟨.bl k,H,I,rfl,q⟩
theorem jo:jT X (abM .Eq) ZA:=by
 intro ċ s σ H x y v u Q I rx ry h;obtain⟨hs,q⟩:=h;cases x with
 |non=>
  cases rx;cases y with
  |non=>cases ry;exact PySem.EqNone.eq_none_none (bS I q (by simp))
  |bl j=>cases ry;exact PySem.EqNone.eq_none_bool (bS I q (by simp))
  |int j=>obtain⟨t',rfl⟩:=ry;exact PySem.EqNone.eq_none_int (bS I q (by simp))
  |str j=>obtain⟨t',rfl⟩:=ry;exact PySem.EqNone.eq_none_str (bS I q (by simp))
  |_=>exact absurd (show false=true from hs) aaB
 |bl i=>
  cases rx;cases y with
  |non=>cases ry;exact PySem.EqNone.eq_bool_none (bS I q (by simp))
  |bl j=>cases ry;exact eq_bool (bS I q yA)
  |str j=>obtain⟨t',rfl⟩:=ry;exact PySem.EqMixed.eq_bool_str (bS I q (by simp))
  |_=>exact absurd (show false=true from hs) aaB
 |int i=>
  obtain⟨t,rfl⟩:=rx;cases y with
  |non=>cases ry;exact PySem.EqNone.eq_int_none (bS I q (by simp))
  |int j=>obtain⟨t',rfl⟩:=ry;exact eq_int (bS I q tX)
  |str j=>obtain⟨t',rfl⟩:=ry;exact PySem.EqMixed.eq_int_str (bS I q (by simp))
  |_=>exact absurd (show false=true from hs) aaB
 |str i=>
  obtain⟨t,rfl⟩:=rx;cases y with
  |non=>cases ry;exact PySem.EqNone.eq_str_none (bS I q (by simp))
  |bl j=>cases ry;exact PySem.EqMixed.eq_str_bool (bS I q (by simp))
  |int j=>obtain⟨t',rfl⟩:=ry;exact PySem.EqMixed.eq_str_int (bS I q (by simp))
  |str j=>obtain⟨t',rfl⟩:=ry;exact eq_str (bS I q tY)
  |_=>exact absurd (show false=true from hs) aaB
 |byt i=>
  obtain⟨t,rfl⟩:=rx;cases y with
  |byt j=>obtain⟨t',rfl⟩:=ry;exact PySem.W.eq_bytes (bS I q ES)
  |_=>exact absurd (show false=true from hs) aaB
 |_=>cases y<;>exact absurd (show false=true from hs) aaB
theorem U1:jT X (abM .NotEq) ZC:=by
 intro ċ s σ H x y v u Q I rx ry h;obtain⟨hs,q⟩:=h;cases x with
 |non=>
  cases rx;cases y with
  |non=>cases ry;exact PySem.EqNone.ne_none_none (bS I q (by simp))
  |bl j=>cases ry;exact PySem.EqNone.ne_none_bool (bS I q (by simp))
  |int j=>obtain⟨t',rfl⟩:=ry;exact PySem.EqNone.ne_none_int (bS I q (by simp))
  |str j=>obtain⟨t',rfl⟩:=ry;exact PySem.EqNone.ne_none_str (bS I q (by simp))
  |_=>exact absurd (show false=true from hs) aaB
 |bl i=>
  cases rx;cases y with
  |non=>cases ry;exact PySem.EqNone.ne_bool_none (bS I q (by simp))
  |bl j=>cases ry;exact ne_bool (bS I q (congrArg not yA))
  |str j=>obtain⟨t',rfl⟩:=ry;exact PySem.EqMixed.ne_bool_str (bS I q (by simp))
  |_=>exact absurd (show false=true from hs) aaB
 |int i=>
  obtain⟨t,rfl⟩:=rx;cases y with
  |non=>cases ry;exact PySem.EqNone.ne_int_none (bS I q (by simp))
  |int j=>obtain⟨t',rfl⟩:=ry;exact ne_int (bS I q (congrArg not tX))
  |str j=>obtain⟨t',rfl⟩:=ry;exact PySem.EqMixed.ne_int_str (bS I q (by simp))
  |_=>exact absurd (show false=true from hs) aaB
 |str i=>
  obtain⟨t,rfl⟩:=rx;cases y with
  |non=>cases ry;exact PySem.EqNone.ne_str_none (bS I q (by simp))
  |bl j=>cases ry;exact PySem.EqMixed.ne_str_bool (bS I q (by simp))
  |int j=>obtain⟨t',rfl⟩:=ry;exact PySem.EqMixed.ne_str_int (bS I q (by simp))
  |str j=>obtain⟨t',rfl⟩:=ry;exact ne_str (bS I q (congrArg not tY))
  |_=>exact absurd (show false=true from hs) aaB
 |byt i=>
  obtain⟨t,rfl⟩:=rx;cases y with
  |byt j=>obtain⟨t',rfl⟩:=ry;exact PySem.W.ne_bytes (bS I q (congrArg not ES))
  |_=>exact absurd (show false=true from hs) aaB
 |_=>cases y<;>exact absurd (show false=true from hs) aaB
def PH:jT X (abM .Lt) (CJ λi j=>.bl (decide (i<j))):=M_ λ_ _ _ _ _ _ _ q=>lt_int q
def PJ:jT X (abM .LtE) (CJ λi j=>.bl (decide (i<=j))):=M_ λ_ _ _ _ _ _ _ q=>le_int q
def PL:jT X (abM .Gt) (CJ λi j=>.bl (decide (j<i))):=M_ λ_ _ _ _ _ _ _ q=>gt_int q
def U2:jT X (abM .GtE) (CJ λi j=>.bl (decide (j<=i))):=M_ λ_ _ _ _ _ _ _ q=>ge_int q
theorem CL:jT X (abM .Is) (λx y H Q=>y=.non/\Q (.bl (decide (x=.non))) H):=by
 intro ċ s σ H x y v u Q I rx ry h;obtain⟨rfl,q⟩:=h;cases ry;refine is_none_gen (bS I q ?_);cases x<;>first
  | (rfl)
  | (obtain⟨t,rfl⟩:=rx;rfl)
theorem tZ:jT X (abM .IsNot) (λx y H Q=>y=.non/\Q (.bl (!decide (x=.non))) H):=by
 intro ċ s σ H x y v u Q I rx ry h;obtain⟨rfl,q⟩:=h;cases ry;refine isnot_none_gen (bS I q ?_);cases x<;>first
  | (rfl)
  | (obtain⟨t,rfl⟩:=rx;rfl)
theorem jT.or {f:aao->aao->Sem aao}{r r':R2}(h:jT X f r)(h':jT X f r'):jT X f (λx y H Q=>r x y H Q\/r' x y H Q):=by
 intro ċ s σ H x y v u Q I rx ry q;rcases q with q|q
 ·exact h ċ s σ H x y v u Q I rx ry q
 ·exact h' ċ s σ H x y v u Q I rx ry q
theorem bN (b:ab6)(h:op≠.In:=by decide)(h2:op≠.NotIn:=by decide):adG op b=false:=by
 have e1:(op==CmpOp.In)=false:=by lia
 have e2:(op==CmpOp.NotIn)=false:=by lia
 cases b<;>simp[adG,e1,e2]
theorem Nb {r:R2}(ho:jT X (abM op) r)(ha:PE X a ta)(hb:PE X b tb)(hm:adG op b=false):PE X (.Compare a [op] [b] pos) (UW r ta tb):=by
 intro ċ s σ H Q I h;exact wpAny_Compare1 (RM ha hb I h λv u s2 x y H2 I2 rx ry q=>ho ċ s2 σ H2 x y v u Q I2 rx ry q) hm
def PM (t:TE):TT:=λσ H Q=>t σ H λx H'=>∃k,x=.bl k/\Q k H'
theorem ET {r:R2}(ho:jT X (abM op) r)(ha:PE X a ta)(hb:PE X b tb)(hm:adG op b=false):PT X (.Compare a [op] [b] pos) (PM (UW r ta tb)):=by
 intro ċ s σ H Q I h;refine wpAny_isTrue_Compare1 (fg (ha ċ s σ H _ I h) λv s1 ⟨x,H1,I1,r1,q1⟩=>fg (hb ċ s1 σ H1 _ I1 q1) λu s2 ⟨y,H2,I2,r2,q2⟩=>
  fg (ho ċ s2 σ H2 x y v u _ I2 r1 r2 q2) λc s3 ⟨z,H3,I3,r3,k,e,q3⟩=>?_) hm
 subst e;cases r3;exact adE ⟨H3,I3,q3⟩
def IB (r r':R2)(ta tb tc:TE):TE:=λσ H Q=>ta σ H λx H1=>tb σ H1 λy H2=>r x y H2 λz H3=>∃k,z=.bl k/\
 (if k=true then tc σ H3 λw' H4=>r' y w' H4 Q else Q (.bl false) H3)
theorem IC {T_:CmpOp}{r r':R2}(ho:jT X (abM op) r)(EC:jT X (abM T_) r')(ha:PE X a ta)(hb:PE X b tb)(hc:PE X c tc)(hm:lastMarks [op,T_] [b,c]=false:=by with_unfolding_all rfl):PT X (.Compare a [op,T_] [b,c] pos) (PM (IB r r' ta tb tc)):=by
 intro ċ s σ H Q I h;refine isTrue_chain (fg (ha ċ s σ H _ I h) λv s1 ⟨x,H1,I1,r1,q1⟩=>test_link (fg (hb ċ s1 σ H1 _ I1 q1) λu s2 ⟨y,H2,I2,r2,q2⟩=>
  fg (ho ċ s2 σ H2 x y v u _ I2 r1 r2 q2) λd s3 ⟨z,H3,I3,r3,k,e,q3⟩=>?_)) hm
 subst e;cases r3;refine adE ?_;cases k with
 |false=>
  obtain⟨k',e',q'⟩:=q3;cases e';exact ite_ff ⟨H3,I3,q'⟩
 |true=>
  refine ite_tt (test_last (fg (hc ċ s3 σ H3 _ I3 q3) λw' s4 ⟨z',H4,I4,r4,q4⟩=>fg (EC ċ s4 σ H4 y z' u w' _ I4 r2 r4 q4) λd' s5 ⟨z2,H5,I5,r5,k2,e2,q5⟩=>?_));subst e2;cases r5;exact adE ⟨H5,I5,q5⟩
def yB:(aaf:Nat)<2 ^ 63:=by decide
theorem i9 {x:V}{us:List aao}(r:bf [x] us):∃u,us=[u]/\aZ x u:=by
 cases r with
 |cons r1 r2=>cases r2;exact⟨_,rfl,r1⟩
theorem ID {x:V}{us:List aao}(r:bf [x,y] us):∃u w',us=[u,w']/\aZ x u/\aZ y w':=by
 cases r with
 |cons r1 r2=>
  cases r2 with
  |cons r3 r4=>cases r4;exact⟨_,_,rfl,r1,r3⟩
theorem Ay:eW X (.builtin "abs") (λxs H Q=>∃i,xs=[.int i]/\Q (.int (if i<0 then -i else i)) H):=by
 intro ċ s σ H xs us Q I r h;obtain⟨i,rfl,q⟩:=h;obtain⟨u,rfl,t,rfl⟩:=i9 r;exact call_abs_int λu tk=>⟨.int _,H,I.tok _,⟨_,rfl⟩,q⟩
theorem xy (hc:X.calm=true):eW X (.builtin "max") (λxs H Q=>∃i j,xs=[.int i,.int j]/\Q (.int (if j>i then j else i)) H):=by
 intro ċ s σ H xs us Q I r h;obtain⟨i,j,rfl,q⟩:=h;obtain⟨u,w',rfl,⟨t,rfl⟩,⟨t',rfl⟩⟩:=ID r;refine max_two_ints (I.ok.hd hc) λh' tk k=>⟨_,H,I.kept k,?_,q⟩;by_cases hj:j>i
 ·rw[hZ hj,hZ hj];exact⟨_,rfl⟩
 ·rw[hV hj,hV hj];exact⟨_,rfl⟩
theorem mN (hc:X.calm=true):eW X (.builtin "min") (λxs H Q=>∃i j,xs=[.int i,.int j]/\Q (.int (if j<i then j else i)) H):=by
 intro ċ s σ H xs us Q I r h;obtain⟨i,j,rfl,q⟩:=h;obtain⟨u,w',rfl,⟨t,rfl⟩,⟨t',rfl⟩⟩:=ID r;refine min_two_ints (I.ok.hd hc) λh' tk k=>⟨_,H,I.kept k,?_,q⟩;by_cases hj:j<i
 ·rw[hZ hj,hZ hj];exact⟨_,rfl⟩
 ·rw[hV hj,hV hj];exact⟨_,rfl⟩
def U3 (K:aam)(x:V)(H:Hp)(n:Nat):Prop:=
 match x with
 | .str y=>y.length<=aaf/\n=y.length
 | .byt y=>y.size<=aaf/\n=y.size
 | .ref p=>(∃xs,g_ K H p xs/\n=xs.length)\/∃xs,iG K H p xs/\n=xs.length
 |_=>False
theorem dC:eW X (.builtin "len") (λxs H Q=>∃x n,xs=[x]/\U3 X.K x H n/\Q (.int n) H):=by
 intro ċ s σ H xs us Q I r h;obtain⟨x,n,rfl,e,q⟩:=h;obtain⟨u,rfl,rx⟩:=i9 r;have hs:=acq;cases x with
 |str y=>
  obtain⟨t,rfl⟩:=rx;obtain⟨hy,e'⟩:y.length<=aaf/\n=y.length:=e;subst e';exact len_str (by lia) ⟨.int _,H,I.tok _,⟨_,rfl⟩,q⟩
 |byt y=>
  obtain⟨t,rfl⟩:=rx;obtain⟨hy,e'⟩:y.size<=aaf/\n=y.size:=e;subst e';exact PySem.W.len_bytes (by lia) ⟨.int _,H,I.tok _,⟨_,rfl⟩,q⟩
 |ref p=>
  cases rx;have e' :=e;rcases e' with⟨xs,hx,e'⟩|⟨xs,hx,e'⟩
  ·subst e';obtain⟨az,r',pl,hz⟩:=I.list hx;have jS:=r'.length;exact Calls.call_len_list pl.isList (by simp only[aaz];lia) ⟨.int _,H,I.tok _,⟨_,by simp only[aaz];rw[jS]⟩,q⟩
  ·subst e';obtain⟨az,r',pl,hz⟩:=I.tuple hx;have jS:=r'.length;exact len_tuple pl (by simp only[aaz];lia) ⟨.int _,H,I.tok _,⟨_,by simp only[aaz];rw[jS]⟩,q⟩
 |_=>exact (show False from e).elim
end
end L2
variable {r r':L2.R2}
namespace L2
structure RO (h:ac5)(x dx C:aaL)(mA:Str->Option aao):Prop where
 obj:h.get? x=some (PySem.W.instObj C dx)
 ns:h.Ns1 dx mA
 ne:dx≠x
theorem GU {dx:aaL}{mA:Str->Option aao}(n:h.Ns1 dx mA):∃od,h.get? dx=some od/\∀name,PySem.W.lookIn name od=some (mA name):=by
 obtain⟨o,es,ep,ho,hd,hk,_,hm⟩:=n;refine⟨o,ho,λname=>?_⟩;have e:=hm name;unfold nsFind findBy at e;rw[←Array.find?_toList] at e;unfold PySem.W.lookIn;rw[hd];dsimp only;split
 ·grind
 ·rename_i q;rw[q] at e;have a:es.toList.any (·.refKey)=false:=by
   rw[List.any_eq_false];intro y hy;obtain⟨z,t,hkey⟩:=hk y (Array.mem_toList_iff.mp hy);simp[DictEntry.refKey,hkey]
  grind
theorem RO.look {x dx C:aaL}{mA:Str->Option aao}(I:RO h x dx C mA):∃od,PySem.W.InstAt h x (PySem.W.instObj C dx) C (some od)/\∀name,PySem.W.lookIn name od=some (mA name):=
 let ⟨od,ho,hl⟩:=GU I.ns
 ⟨od,⟨I.obj,rfl,rfl,ho⟩,hl⟩
theorem nZ.some_of {o:Option aao}(r:nZ (some v) o):∃u,o=some u/\aZ v u:=by
 cases o with
 |none=>exact (show False from r).elim
 |some u=>exact⟨u,rfl,r⟩
section
variable {C dx:aaL}{fs fs':List (Str×V)}
theorem Nc (hok:lX P w H h)(e:H a=some (.ins C dx fs)):∃mA,RO h a dx C mA/\(∀f,nZ (fs.lookup f) (mA f))/\PySem.Within mA (fs.map (·.1))/\fs.length<=1000/\H dx=some (.own a):=by
 obtain⟨d,z,ne,ob,mA,n,r,q⟩:=(show cR P w H h a _ from hok a _ e);exact⟨mA,⟨ob,n,ne⟩,r,q,z,d⟩
end
structure Xp (K:aam)(C:aaL):Prop where
 pg:PySem.W.plainGet K C Str.empty=true
 hd:PySem.W.hasDictIn K C=true
 po:PySem.W.plainOver K C=true
 sa:adP K (.ref C) "__setattr__"=some (some (.builtin "object.__setattr__"))
theorem Xp.get {C:aaL}(c:Xp K C)(f:Str):PySem.W.plainGet K C f=true:=c.pg
def RP (K:aam)(C:aaL)(f:Str):Prop:=adP K (.ref C) f=some none
structure Con (K:aam)(C:aaL)(f:Str)(v:V)(u:aao):Prop where
 at_:adP K (.ref C) f=some (some u)
 rel:aZ v u
 get:PySem.W.specialIn K u "__get__"=some none
 cp:PySem.W.copiedNames.contains f=false
structure aaG (K:aam)(C:aaL)(m:Str)(f:aaL):Prop where
 at_:adP K (.ref C) m=some (some (.ref f))
 fn:PySem.W.isFn K (.ref f)=true
 kp:ada K (.ref f)=true
section
variable {A:abd}{c:aao}{b:Bool}
inductive qo (K:aam)(H:Hp):V->aao->Prop where
 |non:qo K H .non (.type "NoneType")
 |bl (x:Bool):qo K H (.bl x) (.type "bool")
 |int (i:Int):qo K H (.int i) (.type "int")
 |str (x:Str):qo K H (.str x) (.type "str")
 |flt (x:UInt64):qo K H (.flt x) (.type "float")
 |lst {a:aaL} {xs:List V} (e:H a=some (.lst xs)):qo K H (.ref a) (.type "list")
 |frz {a:aaL} {o:Obj} {xs:List V} (e:H a=some (.frz o (.lst xs))):qo K H (.ref a) (.type "list")
 |tup {a:aaL} {xs:List V} (e:H a=some (.tup xs)):qo K H (.ref a) (.type "tuple")
 |dK {a:aaL} {bw:List (Key×V)} (e:H a=some (.dK bw)):qo K H (.ref a) (.type "dict")
 |dT {a:aaL} {bw:List (List Key×V)} (e:H a=some (.dT bw)):qo K H (.ref a) (.type "dict")
 |ins {a C dx:aaL} {fs:List (Str×V)} (e:H a=some (.ins C dx fs)) (cl:Xp K C) (ha:adP K (.ref C) "__class__"=some (some (.builtin "object.__class__")))
   (hn:PySem.W.specialIn K (.builtin "object.__class__") "__get__"=some (some (.builtin "getset_descriptor.__get__"))) (ć:PySem.W.takesIn K (.builtin "object.__class__")=some true)
   (hm:PySem.W.mroIn K C (.type "object")=some true):qo K H (.ref a) (.ref C)
theorem GV {x:V}{u t:aao}(I:aG X ċ σ H s)(rx:aZ x u)(ty:qo X.K H x t)(e:PySem.W.kitOne X.K t c=some b)(h:∀tk,Q (.bool b) {s with toks:=tk}) :
  aaT (aaX X.prog X.w) A (call (.builtin "isinstance") [u,c]) Q E s:=by
 cases ty with
 |non=>cases (show u=Value.none from rx);exact abY PySem.W.kitx_none I.kIn True.intro e (λz=>nomatch z) h
 |bl y=>cases (show u=Value.bool y from rx);exact abY PySem.W.kitx_bool I.kIn True.intro e (λz=>nomatch z) h
 |int i=>obtain⟨t,q⟩:=(show ∃t,u=Value.int i t from rx);cases q;exact abY PySem.W.kitx_int I.kIn True.intro e (λz=>nomatch z) h
 |str y=>obtain⟨t,q⟩:=(show ∃t,u=Value.str y t from rx);cases q;exact abY PySem.W.kitx_str I.kIn True.intro e (λz=>nomatch z) h
 |flt y=>obtain⟨t,q⟩:=(show ∃t,u=Value.float y t from rx);cases q;exact abY PySem.W.kitx_float I.kIn True.intro e (λz=>nomatch z) h
 | @lst a xs ea=>
  cases (show u=Value.ref a from rx);obtain⟨_,_,n,_,h1⟩:=(show cR _ X.w H _ a _ from I.hok a _ ea);exact abY PySem.W.kitx_list I.kIn ⟨_,h1,rfl⟩ e (λz=>nomatch z) h
 | @frz a ob xs ea=>
  cases (show u=Value.ref a from rx);obtain⟨_,_,_,n,_,h1⟩:=(show cR _ X.w H _ a _ from I.hok a _ ea);exact abY PySem.W.kitx_list I.kIn ⟨_,h1,rfl⟩ e (λz=>nomatch z) h
 | @tup a xs ea=>
  cases (show u=Value.ref a from rx);obtain⟨_,_,_,p,_⟩:=(show cR _ X.w H _ a _ from I.hok a _ ea);obtain⟨o,h1,h2,_⟩:=p;exact abY PySem.W.kitx_tuple I.kIn ⟨o,h1,h2⟩ e (λz=>nomatch z) h
 | @dK a bw ea=>
  cases (show u=Value.ref a from rx);obtain⟨_,_,vs,_,p⟩:=(show cR _ X.w H _ a _ from I.hok a _ ea);obtain⟨o,es,ep,h1,h2,_⟩:=p;exact abY PySem.W.kitx_dict I.kIn ⟨o,h1,h2.1⟩ e (λz=>nomatch z) h
 | @dT a bw ea=>
  cases (show u=Value.ref a from rx);obtain⟨_,_,xs,_,o,es,ep,h1,h2,_⟩:=(show cR _ X.w H _ a _ from I.hok a _ ea);exact abY PySem.W.kitx_dict I.kIn ⟨o,h1,h2.1⟩ e (λz=>nomatch z) h
 | @ins a C dx fs ea cl ha hn ć hm=>
  cases (show u=Value.ref a from rx);obtain⟨mA,O,_⟩:=Nc I.hok ea;obtain⟨od,J,_⟩:=O.look;exact abY (PySem.W.kitx_own (cl.get _) cl.hd ha hn ć hm) I.kIn J e (λz=>nomatch z) h
end
end L2
namespace L2
structure gD (k:Nat)(A:abd):Prop where
 hd:A.handled=none
 dp:A.depth+3*k+5<recursionLimit
 un:A.units+16*k+200<abW
theorem gD.mono {A:abd}(r:gD k A)(h:j<=k):gD j A:=⟨r.hd,by have:=r.dp;lia,by have:=r.un;lia⟩
theorem gD.deeper {A:abd}(r:gD (k+1) A)(env:Env):gD k (A.deeper env):=
 ⟨r.hd,by have:=r.dp;show A.depth+1+3*k+5<_;lia,by have:=r.un;show A.units+3+16*k+200<_;lia⟩
theorem gD.depth {A:abd}(r:gD k A):A.depth<recursionLimit:=by have:=r.dp;lia
theorem gD.units {A:abd}(r:gD k A):A.units+64<abW:=by have:=r.un;lia
def X9:TA:=λ_ H Q=>Q [] H
def U4 (ta:TE)(tr:TA):TA:=λσ H Q=>ta σ H λx H1=>tr σ H1 λxs H2=>Q (x::xs) H2
section
variable {e:ab6}{es:List ab6}{t:TA}{pos:Pos}
def n_:PA X [] X9:=λ_ _ _ _ H Q I h=>Calls.spliced_nil ⟨[],H,I,.nil,h⟩
theorem jU (ha:PE X e te)(hr:PA X es t)(hs:aaN (e::es) X.env=(false,adM e X.env)::aaN es X.env:=by rfl):PA X (e::es) (U4 te t):=by
 intro pos ċ s σ H Q I h;rw[hs];refine afs (fg (ha ċ s σ H _ I h) λu s1 ⟨x,H1,I1,r1,q1⟩=>?_);exact fg (hr pos ċ s1 σ H1 _ I1 q1) λus s2 ⟨xs,H2,I2,r2,q2⟩=>⟨x::xs,H2,I2,.cons r1 r2,q2⟩
def X_ (t:TA):TE:=λσ H Q=>t σ H λxs H1=>xs.length<=aaf/\∀p,H1 p=none->Q (.ref p) (dz H1 p (.tup xs))
def Ya (t:TA):TE:=λσ H Q=>t σ H λxs H1=>xs.length<=aaf/\∀p,H1 p=none->Q (.ref p) (dz H1 p (.lst xs))
theorem RQ {x1}(h:PA X es t):PE X (.Tuple es x1 pos) (X_ t):=by
 intro ċ s σ H Q I hq;refine wpAny_Tuple_spliced (fg (h pos ċ s σ H _ I hq) λus s1 ⟨xs,H1,I1,r,z,q⟩=>⟨by rw[←r.length];exact z,?_⟩);have hf:=I1.hok.fresh (aaq _);refine⟨.ref _,dz H1 _ _,I1.laid (λb u e=>aak _ e) (aaq _) ?_,rfl,q _ hf⟩;exact⟨z,us,r,⟨_,aas _ rfl,rfl,_,rfl⟩,_,aas _ rfl⟩
theorem IE (h:PA X es t):PE X (.List es pos) (Ya t):=by
 intro ċ s σ H Q I hq;refine wpAny_List_spliced (fg (h pos ċ s σ H _ I hq) λus s1 ⟨xs,H1,I1,r,z,q⟩=>⟨by rw[←r.length];exact z,?_⟩);have hf:=I1.hok.fresh (aaq _);refine⟨.ref _,dz H1 _ _,I1.laid (λb u e=>aak _ e) (aaq _) ?_,rfl,q _ hf⟩;exact⟨z,us,0,r,aas _ rfl⟩
end
abbrev Sp:=List V->Hp->VK->XK->Prop
abbrev CXT:=List Env->Hp->aaE->XK->aao->aaE->Prop
structure Nf (P:adf)(w:ac2)(K:aam)(mg:Str->Option aao)(base:ac5)(A:abd)(Č:List Env)(s:aaE)(H:Hp):Prop where
 frames:A.frames=some Č
 mod:Mod K mg base
 bs:∀b o,base.get? b=some o->s.heap.get? b=some o/\H b=none
 bsz:base.objs.size<=s.heap.objs.size
 funs:s.heap.FunFrames base Č
 frf:∀b∈EL Č,H b=none
 hok:lX P w H s.heap
 bare:AllBare s.gens
def CE (Č:List Env)(P:adf)(w:ac2)(H:Hp)(s:aaE)(Q:VK)(u:aao)(s':aaE):Prop:=
 ∃v H',s'.os=s.os/\AllBare s'.gens/\Un (EL Č) [] H H' s.heap s'.heap/\lX P w H' s'.heap/\aZ v u/\Q v H'
def CR (CX:CXT)(Č:List Env)(P:adf)(w:ac2)(H:Hp)(s:aaE)(Q:VK)(E:XK)(r:Result)(s':aaE):Prop:=
 match r with
 | .ok (.ret u)=>CE Č P w H s Q u s'
 | .ok _=>False
 | .error e=>CX Č H s E e s'
structure ny (P:adf)(w:ac2)(K:aam)(mg:Str->Option aao)(base:ac5)(CX:CXT)(k:Nat)(f:aaL)(fd:ae2)(ps:List Str)(sp:Sp):Prop where
 len:∀vs H Q E,sp vs H Q E->vs.length=ps.length
 run:∀(A:abd) (Č:List Env) (s:aaE) (H:Hp) (args:Args) (us:List aao) (vs:List V) (Q:VK) (E:XK),gD k A->Nf P w K mg base A Č s H->BindsTo s fd args (ps.zip us)->bf vs us->sp vs H Q E->
  codeAny (aaX P w) A (.call (.ref f) args) (CR CX Č P w H s Q E) s
theorem ny.imp {base:ac5}{CX:CXT}{sp Z8:Sp}(F:ny P w K mg base CX k f fd ps sp)(h:∀vs H Q E,Z8 vs H Q E->sp vs H Q E):ny P w K mg base CX k f fd ps Z8:=
 ⟨λvs H Q E q=>F.len vs H Q E (h _ _ _ _ q),λA Č s H args us vs Q E hr he hb hv hs=>F.run A _ s H args us vs Q E hr he hb hv (h _ _ _ _ hs)⟩
section
variable {s':aaE}
theorem aG.env0 (I:aG X ċ σ H s):Nf X.prog X.w X.K X.mg X.base X.A X.stack s H:=
 ⟨I.ok.frames,I.ok.mod,I.bs,abl I.ok.bsz I.sz,I.stack,I.stkFree,I.hok,I.bare⟩
theorem aG.after {Q:VK}{u:aao}(I:aG X ċ σ H s)(h:CE X.stack X.prog X.w H s Q u s'):EP X ċ σ Q u s':=by
 obtain⟨v,H',os,bare,un,hok,r,q⟩:=h;obtain⟨hh,g,d,t,os'⟩:=s';obtain rfl:os'=s.os:=os;exact⟨v,H',I.call un hok bare (λb z=>absurd z (by simp)),r,q⟩
end
def PN (sp:Sp)(UI:List V)(E:XK)(t:TA):TE:=λσ H Q=>t σ H λvs H1=>sp (vs++UI) H1 Q E
def xA (K:aam)(fd:ae2)(ps:List Str)(ds:List aao):Prop:=
 ∀(s:aaE) (us:List aao),K.In s.heap->(us++ds).length=ps.length->BindsTo s fd ⟨us,[]⟩ (ps.zip (us++ds))
theorem xA.all (h:∀us:List aao,us.length=ps.length->bindArgs fd ⟨us,[]⟩=pure (ps.zip us)):xA K fd ps []:=λs us _ hl=>by
 rw[abG] at hl ⊢;exact .of_eq (h us hl)
def CM (CX:CXT)(X:Cx)(E:XK):Prop:=∀(ċ:List (aaL×Obj)) (σ:St) (H:Hp) (s:aaE) (e:aao) (s':aaE),aG X ċ σ H s->CX X.stack H s E e s'->X.xe e s'
section
variable {CX:CXT}{C:aaL}{sp:Sp}{UI:List V}{ds:List aao}{E:XK}{m:Str}{p pos fA:Pos}{e o:ab6}{es:List ab6}{ta:TE}{t:TA}
theorem RS {Q:VK}{us:List aao}(F:ny X.prog X.w X.K X.mg X.base CX k f fd ps sp)(hr:gD k X.A)(hb:xA X.K fd ps ds)(hd:bf UI ds)(hx:CM CX X E)(I:aG X ċ σ H s)(r:bf vs us)(h:sp (vs++UI) H Q E):aaT (aaX X.prog X.w) X.A (call (.ref f) us) (EP X ċ σ Q) X.xe s:=by
 have r2:=r.append hd;have hl:(us++ds).length=ps.length:=by rw[←r2.length];exact F.len _ _ _ _ h
 refine wpAny_call (aeK (F.run X.A _ s H _ _ _ Q E hr I.env0 (hb s us I.kIn hl) r2 h) λr s' hq=>?_);cases r with
 |error e=>exact hx ċ σ H s e s' I hq
 |ok fl=>
  cases fl with
  |ret u=>exact I.after hq
  |next=>exact adF hq
  |brk=>exact adF hq
  |cont=>exact adF hq
theorem Ng (F:ny X.prog X.w X.K X.mg X.base CX k f fd ps sp)(hr:gD k X.A)(hg:Gl X x)(hm:X.mg x=some (.ref f))(hk:ada X.K (.ref f)=true)(hb:xA X.K fd ps ds)(hd:bf UI ds)(hx:CM CX X E)
  (ha:PA X (e::es) t) (ED:(x==("__debug__":Str))=false:=by decide) (he:aaN (e::es) X.env=(false,adM e X.env)::aaN es X.env:=by rfl) (sO:(acy pos (aaN es X.env)).any (·.1)=false:=by rfl) :
  PE X (.Call (.Name x p) (e::es) [] pos) (PN sp UI E t):=by
 intro ċ s σ H Q I h;refine aft (MY I hg hm ?_ ED);refine PySem.W.callWith_K I.ok.mod.kin hk (fg (ha pos ċ s σ H _ I h) λus s1 ⟨vs,H1,I1,r,q⟩=>⟨I1.kIn,?_⟩) he sO;exact RS F hr hb hd hx I1 r q
structure Mk (K:aam)(C f:aaL):Prop where
 makes:PySem.W.makesIn K C=true
 init:adP K (.ref C) "__init__"=some (some (.ref f))
 fn:PySem.W.isFn K (.ref f)=true
 kp:ada K (.ref C)=true
end
section
variable {CX:CXT}{C:aaL}{ks:List Str}{sp:Sp}{E:XK}{m:Str}{p pos fA kpos:Pos}{e o:ab6}{es:List ab6}{kws:List aed}{ta:TE}{t tk:TA}{nm:Option Str}
structure Yb (K:aam)(fd:ae2)(ps ks:List Str)(g:List aao->List aao->List aao)(gV:List V->List V->List V):Prop where
 to:∀(s:aaE) (us ws:List aao),K.In s.heap->(g us ws).length=ps.length->BindsTo s fd ⟨us,ks.zip ws⟩ (ps.zip (g us ws))
 rel:∀{vs:List V} {us:List aao} {zs:List V} {ws:List aao},bf vs us->bf zs ws->bf (gV vs zs) (g us ws)
variable {g:List aao->List aao->List aao}{gV:List V->List V->List V}
end
structure aI (N P:List Str)(sc:ae3):Prop where
 kind:sc.kind=.function
 co:sc.isCoroutine=false
 gen:sc.isGenerator=false
 nd:N.Nodup
 pre:N.take P.length=P
 par:∀x∈P,sc.names.lookup x=some .local\/sc.names.lookup x=some .cell
 nofree:∀y∈sc.names,y.2≠.free
theorem xB {ad3:Str->Option afu}{x:Str}:∀{binds:List (Str×aao)} {m:Str->Option aao},(∀v,(x,v)∉binds)->bindL ad3 binds m x=m x
 | [],_,_=>rfl
 | (n,v)::r,m,h=>by
  unfold bindL;rw[xB λw hw=>h w (aai _ hw)];split
  ·grind
  ·rfl
theorem xC {ad3:Str->Option afu}{x:Str}:∀{binds:List (Str×aao)} {m:Str->Option aao},(∀v,(x,v)∉binds)->bindC ad3 binds m x=m x
 | [],_,_=>rfl
 | (n,v)::r,m,h=>by
  unfold bindC;rw[xC λw hw=>h w (aai _ hw)];split
  ·rfl
  grind
theorem xD {ad3:Str->Option afu}{x:Str}{v:aao}:∀{P:List Str} {vs:List aao} {i:Nat} {m:Str->Option aao},P.Nodup->P[i]? = some x->vs[i]? = some v->ad3 x=some .local->
  bindL ad3 (P.zip vs) m x=some v
 | [],_,_,_,_,h,_,_=>by simp at h
 |_::_,[],_,_,_,_,h,_=>by simp at h
 |p::P,w::vs,0,m,nd,h1,h2,hk=>by
  simp at h1 h2;subst h1;subst h2;show bindL _ ((p,w)::P.zip vs) m p=_;unfold bindL;rw[xB λv hv=>(abe.mp nd).1 (adm hv).1,hZ hk];simp
 |p::P,w::vs,i+1,m,nd,h1,h2,hk=>by
  unfold bindL;exact xD (abe.mp nd).2 (by simpa using h1) (by simpa using h2) hk
theorem xE {ad3:Str->Option afu}{x:Str}{v:aao}:∀{P:List Str} {vs:List aao} {i:Nat} {m:Str->Option aao},P.Nodup->P[i]? = some x->vs[i]? = some v->ad3 x≠some .local->
  bindC ad3 (P.zip vs) m x=some v
 | [],_,_,_,_,h,_,_=>by simp at h
 |_::_,[],_,_,_,_,h,_=>by simp at h
 |p::P,w::vs,0,m,nd,h1,h2,hk=>by
  simp at h1 h2;subst h1;subst h2;show bindC _ ((p,w)::P.zip vs) m p=_;unfold bindC;rw[xC λv hv=>(abe.mp nd).1 (adm hv).1,hV hk];simp
 |p::P,w::vs,i+1,m,nd,h1,h2,hk=>by
  unfold bindC;exact xE (abe.mp nd).2 (by simpa using h1) (by simpa using h2) hk
def aeV (N:List Str)(vs:List V):St:=vs.map some++aa_ (N.length-vs.length) none
noncomputable def sT (CX:CXT)(P:adf)(w:ac2)(K:aam)(mg:Str->Option aao)(base:ac5)(N:List Str)(qual:Str)(scope:ae3)(f:aaL)(cd:aao)(A:abd)(Č:List Env)(s:aaE)(H:Hp)(E:XK):Cx where
 prog:=P
 w:=w
 K:=K
 mg:=mg
 base:=base
 A:=A.deeper (afv qual scope s.heap.objs.size f cd)
 N:=N
 s₀:=s
 H₀:=H
 env:=afv qual scope s.heap.objs.size f cd
 Č:=Č
 stack:=afv qual scope s.heap.objs.size f cd::Č
 ex:=[]
 calm:=true
 fn:=λ_=>true
 pn:=[]
 xe:=λe s'=>aaT (aaX P w) (A.deeper (afv qual scope s.heap.objs.size f cd)) (leaving (afv qual scope s.heap.objs.size f cd) e) (λ_ Rf=>CX Č H s E e Rf) (λe' Rf=>CX Č H s E e' Rf) s'
theorem Az {sc:ae3}(h:sc.names.lookup x=some .cell):∃c,(acC n sc.names []).lookup x=some c:=by
 have q:=PySem.W.cellsFrom_some _ n [] (.inl h);exact Option.isSome_iff_exists.mp q
theorem GW {CX:CXT}{base:ac5}{cd:aao}{A:abd}{Č:List Env}{s1:aaE}{E:XK}{us:List aao}(S:aI N ps scope)(hd:A.handled=none)(e0:Nf P w K mg base A Č s H)(hl:vs.length=ps.length)(r:bf vs us)(x:InCallC s s.heap.objs.size (bindL (afv qual scope s.heap.objs.size f cd).kindOf (ps.zip us) λ_=>none) (acC (s.heap.objs.size+1) scope.names []) (bindC (afv qual scope s.heap.objs.size f cd).kindOf (ps.zip us) λ_=>none) s1) :
  aG (sT CX P w K mg base N qual scope f cd A Č s H E) [] (aeV N vs) H s1:=by
 have sO:ps.length<=N.length:=by have:=congrArg aev S.pre;grind
 obtain⟨h1,tk,rfl,hk⟩:=x.done;have WQ:∀b ,b∉(sT CX P w K mg base N qual scope f cd A Č s H E).ex:=λb z=>absurd (show b∈([]:List aaL) from z) (by simp);refine⟨⟨e0.mod,S.kind,rfl,rfl,aaq _,λy z c h1 h2=>?_,λy hy=>?_,λy c _ h=>?_,λ_=>hd,Around.frames_deeper e0.frames,.inr ⟨rfl,rfl⟩,λb z=>absurd z (WQ b),e0.bs,e0.bsz,λb _ _=>WQ b,λb z=>absurd z (WQ b),e0.funs,e0.frf⟩,
  rfl,e0.bare,Un.kept hk,⟨_,x.toInCall.ns,λi y v h1 h2 h3=>?_⟩,λy c h=>⟨_,x.cell y c h⟩,e0.hok.fresh (aaq _),λy c h=>?_,λp hp=>absurd (show p∈([]:List _) from hp) (by simp),e0.hok.kept hk,?_⟩
 ·exact name_of_addr x.apart (aa5 h1) (aa5 h2)
 ·rcases hy with hy|hy
  ·exact Az hy
  ·exact absurd rfl (S.nofree _ (aa5 hy))
 ·exact aeJ (x.above y c (aa5 h))
 ·have hi:i<vs.length:=by
   unfold aeV at h2;by_cases hi:i<vs.length
   ·exact hi
   ·rw[ace (by simpa using hi)] at h2;rw[aee] at h2;split at h2<;>cases h2
  have ha:vs[i]? = some v:=by
   unfold aeV at h2;rw[abZ (by simpa using hi),aar] at h2;cases e:vs[i]? with
   |none=>rw[e] at h2;cases h2
   |some a=>rw[e] at h2;cases h2;rfl
  obtain⟨u,hu,rv⟩:=r.get ha;have hp:ps[i]? = some y:=by
   rw[←S.pre,afK (by simp_all)];exact h1
  have Z9:ps.Nodup:=by rw[←S.pre];exact S.nd.sublist (List.take_sublist _ _)
  refine⟨u,rv,?_⟩;rcases S.par y (abq hp) with k|k
  ·exact .inl ⟨k,xD Z9 hp hu k⟩
  ·obtain⟨c,e⟩:=Az k;refine .inr ⟨.inl k,c,e,?_⟩;have q:=x.cell y c e;rw[xE Z9 hp hu (by show scope.names.lookup y≠_;lia)] at q;exact q
 ·exact e0.hok.fresh (aeJ (x.above y c (aa5 h)))
 ·unfold aeV;show _=N.length;simp[*]
theorem U5 {CX:CXT}{base:ac5}{name:Str}{params:Arguments}{dV kV qk pm cY ct oc:aao}{an od:Option aaL}{Rg:Array (Option aao)}{sp:Sp}(lk:K.lookup f=some ⟨oc,od,.func (acb name qual params body scope dV kV qk pm an cY ct),Rg⟩)(nE:afD K cY qual=true)(S:aI N ps scope)(len:∀vs H Q E,sp vs H Q E->vs.length=ps.length)(jJ:∀(A:abd) (Č:List Env) (s:aaE) (H:Hp) (vs:List V) (Q:VK) (E:XK),gD k (A.deeper (afv qual scope s.heap.objs.size f cY))->sp vs H Q E->
   ∃t,wY (sT CX P w K mg base N qual scope f cY A Č s H E) body t/\t {nx:=λ_ H'=>Q .non H',rt:=Q} (aeV N vs) H) :
  ny P w K mg base CX (k+1) f (acb name qual params body scope dV kV qk pm an cY ct) ps sp:=by
 refine⟨len,λA Č s H args us vs Q E hr e0 hb r Rh=>?_⟩;have hl:=len _ _ _ _ Rh;have KX:=e0.mod.kin.keeps λb o e=>(e0.bs b o e).1;have lim:=e0.mod.nolimit.keeps λb o e=>(e0.bs b o e).1;have WR:∀y∈ps.zip us,scope.names.lookup y.1=some _\/(scope.names.lookup y.1=some _/\((acC (s.heap.objs.size+1) _ []).lookup y.1).isSome=true):=fun⟨n,v⟩ hy=>by
  rcases S.par n (adm hy).1 with q|q
  ·exact .inl q
  ·exact .inr ⟨q,PySem.W.cellsFrom_some _ _ _ (.inl q)⟩
 refine codeAny_call_function hr.depth (KX _ _ lk) rfl S.co S.gen rfl (PySem.W.codeRec_of KX nE) (hb _ _ _ _ ?_);refine wpAny_newFunctionEnv_cells S.kind WR λenv he s1 x=>?_;subst he;refine⟨lim.keeps x.toInCall.keep,codeAny_func ?_⟩;obtain⟨t,ht,hq⟩:=jJ A _ s H vs Q E (hr.deeper _) Rh;have I:aG (sT CX P w K mg base N qual _ f cY A _ s H E) [] _ H s1:=GW S hr.hd e0 hl r x;refine abr (ht [] s1 _ H _ I hq) (λfl s' hs=>?_) λe s' hs=>hs;have fin:∀{ζ:St} {H':Hp} {v:V} {u:aao},aG (sT CX P w K mg base N qual scope f cY A _ s H E) [] ζ H' s'->aZ v u->Q v H'->CE Č P w H s Q u s' :=
  λ{ζ H' v u} J rv q=>⟨v,H',J.os,J.bare,J.base,J.hok,rv,q⟩
 cases fl with
 |ret u=>
  obtain⟨v,ζ,H',J,rv,q⟩:=hs;exact fin J rv q
 |next=>
  obtain⟨ζ,H',J,q⟩:=hs;exact fin (v:=V.non) J rfl q
 |brk=>
  obtain⟨_,_,_,q⟩:=hs;exact adF q
 |cont=>
  obtain⟨_,_,_,q⟩:=hs;exact adF q
end L2
variable {CX:L2.CXT}{sp:L2.Sp}
namespace L2
section
variable {p pos:Pos}{e:ab6}{es:List ab6}{t:TA}{id:String}{r:List V->Hp->VK->Prop}
def Yc (r:List V->Hp->VK->Prop)(t:TA):TE:=λσ H Q=>t σ H λvs H1=>r vs H1 Q
theorem oM (hc:eW X (.builtin id) r)(hg:Gl X x)(hm:X.mg x=none)(hv:abk x=some (.builtin id))(ha:PA X (e::es) t)(hn:x≠"__name__":=by decide)(ED:(x==("__debug__":Str))=false:=by decide)
  (he:aaN (e::es) X.env=(false,adM e X.env)::aaN es X.env:=by rfl) (sO:(acy pos (aaN es X.env)).any (·.1)=false:=by rfl):PE X (.Call (.Name x p) (e::es) [] pos) (Yc r t):=by
 intro ċ s σ H Q I h;refine aft (ur I hg hm hv ?_ hn ED);exact PyProof.Rows.callWith_builtin1 (fg (ha pos ċ s σ H _ I h) λus s1 ⟨vs,H1,I1,r1,q1⟩=>hc ċ s1 σ H1 vs us Q I1 r1 q1) he sO
theorem ik (hc:eW X (.type T) r)(hg:Gl X x)(hm:X.mg x=none)(hv:abk x=some (.type T))(ha:PA X (e::es) t)(hn:x≠"__name__":=by decide)(ED:(x==("__debug__":Str))=false:=by decide)
  (he:aaN (e::es) X.env=(false,adM e X.env)::aaN es X.env:=by rfl) (sO:(acy pos (aaN es X.env)).any (·.1)=false:=by rfl):PE X (.Call (.Name x p) (e::es) [] pos) (Yc r t):=by
 intro ċ s σ H Q I h;refine aft (ur I hg hm hv ?_ hn ED);exact adl (fg (ha pos ċ s σ H _ I h) λus s1 ⟨vs,H1,I1,r1,q1⟩=>hc ċ s1 σ H1 vs us Q I1 r1 q1) he sO
end
end L2
namespace HT
section
variable {A:abd}
theorem cat_tup {t:aaL}{vs ws:List aao}(ht:IsTup s.heap t vs.toArray)(hb:IsTup s.heap b ws.toArray)(hv:vs≠[])(h1:ws=[]->Q (.ref t) s)(h2:ws≠[]->Q (.ref s.heap.objs.size) {s with heap:=s.heap.push {cls:=.type "tuple",data:=.seq (vs++ws).toArray}})(hsz:vs.length+ws.length<=aaf):aaT (aaX prog w) A (acQ .Add (.ref t) (.ref b)) Q E s:=by
 obtain⟨⟨cls,dd,data,sl⟩,ho,hc,n,hd⟩:=id ht;obtain⟨⟨cls2,Ü,data2,UK⟩,Ê,à,n2,yx⟩:=id hb;subst hc hd à yx;have e:vs.toArray++ws.toArray=(vs++ws).toArray:=by simp
 by_cases hw:ws=[]
 ·exact concat_meets ⟨_,ho,rfl⟩ ⟨_,Ê,rfl⟩ noFill_tuple_add seq_tuple_add aen aef (ad4 _ _)
   (tuple_addW1 t b _ _ n n2 dd Ü sl UK (by simpa using hv) (by simp[hw])) ⟨ho,Ê,h1 hw⟩
 ·refine concat_meets ⟨_,ho,rfl⟩ ⟨_,Ê,rfl⟩ noFill_tuple_add seq_tuple_add aen aef (ad4 _ _)
   (tuple_addW2 t b _ _ n n2 dd Ü sl UK (by simpa using hv) (by simpa using hw) (by exact hsz)) ⟨ho,Ê,?_⟩
  rw[e];exact h2 hw
noncomputable def sIx (n d:Nat):Option Int->Nat
 |none=>d
 |some v=>if v<0 then (v+(n:Int)).toNat else min v.toNat n
theorem EU (v:Int)(n d:Nat):(if v<0 then max (v+(n:Int)) 0 else min v (n:Int))=((sIx n d (some v):Nat):Int):=by
 show (if v<0 then max _ 0 else min v _)=(((if v<0 then (v+(n:Int)).toNat else min _ n):Nat):Int);lia
theorem CN (lo hi:Option Int)(n:Nat):adQ lo hi 1 (n:Int)=(((sIx n 0 lo:Nat):Int),((sIx n n hi:Nat):Int)):=by
 have h1:=by omega
 unfold adQ;refine Prod.ext ?_ ?_
 ·cases lo with
  |none=>rfl
  |some v=>exact EU v n 0
 ·cases hi with
  |none=>rfl
  |some v=>exact EU v n n
theorem CP (i j:Nat):ab0 (i:Int) (j:Int) 1=j-i:=by
 unfold ab0;have h1:(1:Int)>0:=by lia
 simp only[h1,if_true,Int.ediv_one];split<;>lia
theorem oe {v:aao}{o:Option Int}{Q:Option Int->aaE->Prop}(p:IsPart v o)(h:Q o s):aaT (aaX prog w) A (Builtin.Slice.slicePartIndex v) Q E s:=by
 cases p with
 |none=>exact slicePart_none h
 |int i t=>exact slicePart_int h
theorem ku {vl vu:aao}{lo:Option Int}{Q:Int×Int×Nat->aaE->Prop}(hs:s.heap.IsSliceOf sl vl vu .none)(pl:IsPart vl lo)(pu:IsPart vu hi)(h:Q (((sIx n 0 lo:Nat):Int),1,sIx n n hi-sIx n 0 lo) s):aaT (aaX prog w) A (afm (.ref sl) (pure (n:Int))) Q E s:=by
 obtain⟨os,Υ,Ï,MV⟩:=id hs;refine aab (aab (abD Υ MV rfl (aab (abD Υ MV rfl (aab (abD Υ MV rfl (aah ?_)))))));refine aab (slicePart_none ?_);refine aab (oe pl (aab (oe pu (aab (aah ?_)))));show aaT _ _ (match adQ lo hi 1 _ with|(lo,hi)=>pure (lo,(1:Int),ab0 lo hi 1)) _ _ s;rw[CN lo hi n];show aaT _ _ (pure _) _ _ s;rw[CP];exact aah h
theorem IF (xs:Array aao)(i k:Nat):((aax k).filterMap λ(m:Nat)=>xs[((i:Int)+(m:Int)*1).toNat]?).toArray=((xs.toList.drop i).take k).toArray:=by
 have e:(λ(m:Nat)=>xs[((i:Int)+(m:Int)*1).toNat]?)=λm=>xs[i+m]? := by
  grind
 rw[e];have:=pick_run xs i k;rw[List.filterMap_map] at this;have e2:((λx=>xs[x]?)∘λx=>i+x)=λm=>xs[i+m]? := rfl;lia
theorem getItem_tuple_cut {t:aaL}{items:Array aao}{vl vu:aao}{lo:Option Int}(ht:IsTup s.heap t items)(hs:s.heap.IsSliceOf sl vl vu .none)(pl:IsPart vl lo)(pu:IsPart vu hi)(hw:¬(sIx items.size 0 lo=0/\sIx items.size items.size hi=items.size))(h:Q (.ref s.heap.objs.size) {s with heap:=s.heap.push {cls:=.type "tuple",data:=.seq ((items.toList.drop (sIx items.size 0 lo)).take (sIx items.size items.size hi-sIx items.size 0 lo)).toArray}})(hsz:items.size<=aaf):aaT (aaX prog w) A (aew (.ref t) (.ref sl)) Q E s:=by
 have Mx:=by
  show ((items.toList.drop (sIx items.size 0 lo)).take (sIx items.size items.size hi-sIx items.size 0 lo)).toArray.size<=aaf;rw[aaz,aa2,acd,aaY];omega
 obtain⟨os,Υ,Ï,MV⟩:=id hs;have WS:s.TypeIs (.ref sl) _:=⟨os,Υ,Ï⟩;unfold aew
 try with_reducible refine abx ?_
 refine aab (afL ht.typeIs (by decide) ?_);refine aab (aa7 ht.typeIs abA
  (aa4 abA ht.typeIs afc ?_ (afw _ _)))
 show aaT _ _ (acG _ >>= _) _ _ s;refine aab (tupleItemsOf_ ht ?_);refine aab (ad5 WS ?_);refine aab (ku hs pl pu ?_);have hno:¬((((sIx items.size 0 lo:Nat):Int)==0&&(1:Int)==1&&(sIx items.size items.size hi-sIx items.size 0 lo)==items.size)=true):=by
  simp_all
 show aaT _ _ (if (((sIx _ 0 lo:Nat):Int)==0&&(1:Int)==1&&(sIx _ _ hi-sIx _ 0 lo)==items.size)=true then _ else _) _ _ s;rw[hV hno,IF]
 first
  |exact aab (abc (aah ⟨_,rfl,aah h⟩) Mx)
  |exact aab _
  |exact aab _
  |exact aab _
end
end HT
namespace L2
abbrev TO:=St->Hp->(Option Int->Hp->Prop)->Prop
def PO (X:Cx)(e:Option ab6)(t:TO):Prop:=
 ∀(ċ:List (aaL×Obj)) (s:aaE) (σ:St) (H:Hp) (Q:Option Int->Hp->Prop),aG X ċ σ H s->t σ H Q->
  aaT (aaX X.prog X.w) X.A (evalPart e X.env) (λu s'=>∃o H',aG X ċ σ H' s'/\IsPart u o/\Q o H') X.xe s
def Nh:TO:=λ_ H Q=>Q none H
def U6 (t:TE):TO:=λσ H Q=>t σ H λx H1=>∃i,x=.int i/\Q (some i) H1
theorem f9:∀{us:List aao},bf (ns.map V.int) us->aeg us ns:=by
 induction ns with
 |nil=>intro us r;cases r;exact .nil
 |cons n ns ih=>
  intro us r;cases r with
  |cons r1 r2=>
   obtain⟨t,e⟩:=r1;subst e;exact .cons n t (ih r2)
section
variable {e:ab6}{lo hi:Option ab6}{tl th:TO}{pos p2:Pos}
theorem Ni:PO X none Nh:=by
 intro ċ s σ H Q I h;exact aah ⟨none,H,I,.none,h⟩
theorem EV (h:PE X e te):PO X (some e) (U6 te):=by
 intro ċ s σ H Q I hw;refine fg (h ċ s σ H _ I hw) λu s1 ⟨x,H1,I1,r1,q1⟩=>?_;obtain⟨i,rfl,q⟩:=q1;obtain⟨t,rfl⟩:=r1;exact⟨some i,H1,I1,.int i t,q⟩
def IG (X:Cx)(r:V->Option Int->Option Int->Hp->VK->Prop):Prop:=
 ∀(ċ:List (aaL×Obj)) (s:aaE) (σ:St) (H:Hp) (x:V) (v vl vu:aao) (lo hi:Option Int) (sl:aaL) (Q:VK),aG X ċ σ H s->aZ x v->s.heap.IsSliceOf sl vl vu .none->IsPart vl lo->IsPart vu hi->r x lo hi H Q->
  ∃T id,typeLookup (.type T) "__getitem__"=pure (some (.builtin id))/\s.TypeIs v T/\aaT (aaX X.prog X.w) X.A (aew v (.ref sl)) (EP X ċ σ Q) X.xe s
theorem IG.or {r r':V->Option Int->Option Int->Hp->VK->Prop}(h:IG X r)(h':IG X r'):IG X (λx lo hi H Q=>r x lo hi H Q\/r' x lo hi H Q):=by
 intro ċ s σ H x v vl vu lo hi sl Q I rx hs pl pu q;rcases q with q|q
 ·exact h ċ s σ H x v vl vu lo hi sl Q I rx hs pl pu q
 ·exact h' ċ s σ H x v vl vu lo hi sl Q I rx hs pl pu q
def tSl (r:V->Option Int->Option Int->Hp->VK->Prop)(te:TE)(tl th:TO):TE:=λσ H Q=>te σ H λx H1=>tl σ H1 λl H2=>th σ H2 λu H3=>r x l u H3 Q
theorem IH {r:V->Option Int->Option Int->Hp->VK->Prop}(hr:IG X r)(he:PE X e te)(hl:PO X lo tl)(hu:PO X hi th):PE X (.Subscript e (.Slice lo hi none p2) pos) (tSl r te tl th):=by
 intro ċ s σ H Q I h;refine Subscript_ (fg (he ċ s σ H _ I h) λv s1 ⟨x,H1,I1,r1,q1⟩=>?_);refine wpAny_Slice (fg (hl ċ s1 σ H1 _ I1 q1) λvl s2 ⟨l,H2,I2,pl,q2⟩=>fg (hu ċ s2 σ H2 _ I2 q2) λvu s3 ⟨u,H3,I3,pu,q3⟩=>?_);refine aah ?_;have I4:aG X ċ σ H3 {s3 with heap:=s3.heap.push {cls:=.type "slice",data:=.fields #[vl,vu,.none]}}:=I3.kept λb ob q=>aak _ q;obtain⟨T,id,hT,ht,hg⟩:=hr ċ _ σ H3 x v vl vu l u _ Q I4 r1 (Heap.IsSliceOf.new ..) pl pu q3;exact tail_any ht hT hg (by rfl)
noncomputable def yC (xs:List V)(lo hi:Option Int):List V:=(xs.drop (HT.sIx xs.length 0 lo)).take (HT.sIx xs.length xs.length hi-HT.sIx xs.length 0 lo)
theorem rD (xs:List V)(lo hi:Option Int):(yC xs lo hi).length<=xs.length:=by
 unfold yC;rw[aa2,acd];lia
def Yd (K:aam):V->Option Int->Option Int->Hp->VK->Prop:=λx lo hi H Q=>∃a xs,x=.ref a/\iG K H a xs/\
 ¬(HT.sIx xs.length 0 lo=0/\HT.sIx xs.length xs.length hi=xs.length)/\∀p,H p=none->Q (.ref p) (dz H p (.tup (yC xs lo hi)))
theorem RT:IG X (Yd X.K):=by
 intro ċ s σ H x v vl vu lo hi sl Q I rx hs pl pu h;obtain⟨a,xs,rfl,hx,hw,q⟩:=h;cases rx;obtain⟨az,r,ht,hz⟩:=I.tuple hx;have jS:az.toArray.size=xs.length:=by exact r.length.symm
 refine⟨"tuple",_,PyProof.Rows.slot_tuple_getitem.lookup,ht.typeIs,?_⟩;refine HT.getItem_tuple_cut ht hs pl pu (by rw[jS];exact hw) ?_ (by rw[jS];exact hz);rw[jS];refine⟨.ref _,_,I.laid (λb ob q=>aak _ q) (aaq _) ?_,rfl,q _ (I.hok.fresh (aaq _))⟩;exact⟨abl (rD xs lo hi) hz,_,(r.drop _).take _,IsTup.new _ _,_,aas _ rfl⟩
def U7 (K:aam):R2:=λx y H Q=>∃a b xs ys,x=.ref a/\y=.ref b/\iG K H a xs/\iG K H b ys/\xs≠[]/\xs.length+ys.length<=aaf/\
 (ys=[]->Q (.ref a) H)/\(ys≠[]->∀p,H p=none->Q (.ref p) (dz H p (.tup (xs++ys))))
theorem bf.nil_iff {us:List aao}(r:bf xs us):us=[]↔xs=[]:=by
 cases r with
 |nil=>simp
 |cons _ _=>simp
theorem Nj:jT X (acQ .Add) (U7 X.K):=by
 intro ċ s σ H x y v u Q I rx ry h;obtain⟨a,b,xs,ys,rfl,rfl,ha,hb,hx,hz,q1,q2⟩:=h;cases rx;cases ry;obtain⟨az,r1,p1,_⟩:=I.tuple ha;obtain⟨χ,r2,p2,_⟩:=I.tuple hb;refine HT.cat_tup p1 p2 (λz=>hx (r1.nil_iff.mp z)) (λz=>⟨.ref a,H,I,rfl,q1 (r2.nil_iff.mp z)⟩) (λz=>?_) (by rw[←r1.length,←r2.length];exact hz);refine⟨.ref _,_,I.laid (λb ob q=>aak _ q) (aaq _) ?_,rfl,q2 (λw=>z (r2.nil_iff.mpr w)) _ (I.hok.fresh (aaq _))⟩;exact⟨by rw[aay];exact hz,_,r1.append r2,IsTup.new _ _,_,aas _ rfl⟩
end
end L2
namespace L2
noncomputable def Am (n:Nat)(i:Int):Option Nat:=if 0<=i then (if i<n then some i.toNat else none) else if -(n:Int)<=i then some (i+n).toNat else none
def qj {α:Type}(xs:List α)(i:Int):Option α:=(Am xs.length i).bind λj=>xs[j]?
theorem EW {i:Int}(h:Am n i=some j):afM i n=some j/\j<n/\ -(n:Int)<=i/\i<n:=by
 unfold Am at h;by_cases h0:0<=i
 ·rw[hZ h0] at h;by_cases h1:i<n
  ·rw[hZ h1] at h;have e:=aaP h;exact⟨by rw[seqIndex_of h0 h1,e],by lia,by lia,h1⟩
  ·rw[hV h1] at h;cases h
 ·rw[hV h0] at h;by_cases h1 : -(n:Int)<=i
  ·rw[hZ h1] at h;grind[aaP,seqIndex_neg]
  ·rw[hV h1] at h;cases h
theorem yD {α:Type}{xs:List α}{i:Int}{v:α}(h:qj xs i=some v):∃j,afM i xs.length=some j/\xs[j]? = some v/\j<xs.length/\ -(xs.length:Int)<=i/\i<xs.length:=by
 unfold qj at h;cases e:Am _ i with
 |none=>rw[e] at h;cases h
 |some j=>
  rw[e] at h;obtain⟨h1,h2,h3,h4⟩:=EW e;exact⟨j,h1,h,h2,h3,h4⟩
def EX (b:ab6):Prop:=∀o i,subscripted b false o i=operate [o,i] (aew o i)
def ML (X:Cx)(r:R2):Prop:=
 ∀(value τ:ab6) (ċ:List (aaL×Obj)) (s:aaE) (σ:St) (H:Hp) (x y:V) (v u:aao) (Q:VK),aG X ċ σ H s->aZ x v->aZ y u->r x y H Q->
  subscripted τ false v u=operate [v,u] (aew v u)->aaT (aaX X.prog X.w) X.A (subscriptTail value τ v u) (EP X ċ σ Q) X.xe s
def Nk (X:Cx)(id:String)(r:V->List V->Hp->VK->Prop):Prop:=
 ∀(ċ:List (aaL×Obj)) (s:aaE) (σ:St) (H:Hp) (x:V) (xs:List V) (v:aao) (us:List aao) (Q:VK),aG X ċ σ H s->aZ x v->bf xs us->r x xs H Q->
  aaT (aaX X.prog X.w) X.A (call (.builtin id) (v::us)) (EP X ċ σ Q) X.xe s
section
variable {a b:ab6}{ta tb:TE}{pos:Pos}
theorem ML.or (h:ML X r)(h':ML X r'):ML X (λx y H Q=>r x y H Q\/r' x y H Q):=by
 intro value τ ċ s σ H x y v u Q I rx ry q hs;rcases q with q|q
 ·exact h _ _ ċ s σ H x y v u Q I rx ry q hs
 ·exact h' _ _ ċ s σ H x y v u Q I rx ry q hs
theorem Nk.or {id:String}{r r':V->List V->Hp->VK->Prop}(h:Nk X id r)(h':Nk X id r'):Nk X id (λx xs H Q=>r x xs H Q\/r' x xs H Q):=by
 intro ċ s σ H x xs v us Q I rx rs q;rcases q with q|q
 ·exact h ċ s σ H x xs v us Q I rx rs q
 ·exact h' ċ s σ H x xs v us Q I rx rs q
theorem U8 (hr:ML X r)(ha:PE X a ta)(hb:PE X b tb)(hs:EX b):PE X (.Subscript a b pos) (UW r ta tb):=by
 intro ċ s σ H Q I h;exact Subscript_ (RM ha hb I h λv u s2 x y H2 I2 rx ry q=>hr a b ċ s2 σ H2 x y v u Q I2 rx ry q (hs _ _))
def U9 (K:aam):R2:=λx y H Q=>∃p xs i v,x=.ref p/\y=.int i/\g_ K H p xs/\qj xs i=some v/\Q v H
def U_ (K:aam):R2:=λx y H Q=>∃p xs i v,x=.ref p/\y=.int i/\iG K H p xs/\qj xs i=some v/\Q v H
def Va:R2:=λx y H Q=>∃z i c,x=.str z/\y=.int i/\z.length<=aaf/\qj z.cps.toList i=some c/\Q (.str ⟨#[c]⟩) H
theorem Nl:ML X (U9 X.K):=by
 intro value τ ċ s σ H x y v u Q I rx ry h hs;obtain⟨p,xs,i,z,rfl,rfl,hq,he,q⟩:=h;cases rx;obtain⟨t,rfl⟩:=ry;obtain⟨az,r,pl,hz⟩:=I.list hq;obtain⟨j,h1,h2,h3,h4,h5⟩:=yD he;obtain⟨w,ew,Ct⟩:=r.get h2;have hl:=r.length;have hn:=yB;have fin:EP X ċ σ Q w s:=⟨z,H,I,Ct,q⟩;by_cases h0:0<=i
 ·have hj:=by
   rw[seqIndex_of h0 h5] at h1;exact aaP h1
  exact item_listR pl.isList h0 (by lia) (by grind) fin hs
 ·have hj:(i+(az.toArray.size:Int)).toNat=j:=by
   rw[seqIndex_neg (by lia) h4] at h1;rw[aaz,←hl];exact aaP h1
  exact subscriptTail_builtinR pl.isList.typeIs slot_list_getitem.lookup
   (wpAny_getItem_list_neg pl.isList (by lia) (by rw[aaz]<;>lia) (by lia) (by rw[hj];simpa using ew) ⟨rfl,fin⟩) hs
theorem RU:ML X (U_ X.K):=by
 intro value τ ċ s σ H x y v u Q I rx ry h hs;obtain⟨p,xs,i,z,rfl,rfl,hq,he,q⟩:=h;cases rx;obtain⟨t,rfl⟩:=ry;obtain⟨az,r,pl,hz⟩:=I.tuple hq;obtain⟨j,h1,h2,h3,h4,h5⟩:=yD he;obtain⟨w,ew,Ct⟩:=r.get h2;have hl:=r.length;have hn:=yB;have fin:EP X ċ σ Q w s:=⟨z,H,I,Ct,q⟩;exact subscriptTail_builtinR pl.typeIs slot_tuple_getitem.lookup
  (getItem_tuple pl (by lia) (by lia) (by rw[aaz,←hl];exact h1) (by simpa using ew) ⟨rfl,fin⟩) hs
theorem RV:ML X Va:=by
 intro value τ ċ s σ H x y v u Q I rx ry h hs;obtain⟨z,i,c,rfl,rfl,hz,he,q⟩:=h;obtain⟨t,rfl⟩:=rx;obtain⟨t',rfl⟩:=ry;obtain⟨j,h1,h2,h3,h4,h5⟩:=yD he;have hl:z.cps.toList.length=z.length:=by rfl
 rw[hl] at h1 h4 h5;have hn:=yB;exact tail_any (typeIs_str s z t) slot_str_getitem.lookup (getItem_str (by
  lia) (by rw[h1];simpa using h2) ⟨.str _,H,I.tok _,⟨_,rfl⟩,q⟩) hs
def ZD (K:aam):R2:=λx y H Q=>U9 K x y H Q\/U_ K x y H Q\/Va x y H Q
def aM:ML X (ZD X.K):=Nl.or (RU.or RV)
theorem CQ (az:List aao)(n j:Nat)(u:aao):Obj.mapSeq (·.setIfInBounds j u) {cls:=.type "list",data:=.seq az.toArray n}={cls:=.type "list",data:=.seq (az.set j u).toArray n}:=by
 simp[Obj.mapSeq]
theorem aG.lst {p:aaL}(I:aG X ċ σ H s)(h:H p=some (.lst xs)) :
  ∃(az:List aao) (n:Nat),bf xs az/\s.heap.get? p=some {cls:=.type "list",data:=.seq az.toArray n}/\xs.length<=aaf:=by
 obtain⟨z,az,n,r,e⟩:=I.hok p _ h;exact⟨az,n,r,e,z⟩
theorem aG.lstUpd {p:aaL}{ys:List V}{tR:List aao}{n':Nat}{f:Obj->Obj}(I:aG X ċ σ H s)(h:H p=some (.lst xs))(ho:s.heap.get? p=some {cls:=.type "list",data:=.seq az.toArray n})(hf:f {cls:=.type "list",data:=.seq az.toArray n}={cls:=.type "list",data:=.seq tR.toArray n'})(r:bf ys tR)(hz:ys.length<=aaf)(t:Nat) :
  aG X ċ σ (dz H p (.lst ys)) {s with heap:=s.heap.update p f,toks:=t}:=by
 have e:(s.heap.update p f).get? p=some {cls:=.type "list",data:=.seq tR.toArray n'}:=by
  rw[aci f ho (by rw[hf]<;>rfl),hf]
 refine I.write (by rw[h];trivial) (.inl rfl) (λb u hb q=>(Heap.get?_update_other _ _ (Ne.symm hb)).trans q) ⟨_,e⟩ ?_;exact⟨hz,tR,n',r,e⟩
def Vb:V->V->V->Hp->(Hp->Prop)->Prop:=λo i v H Q=>∃p xs k j,o=.ref p/\i=.int k/\H p=some (.lst xs)/\Am xs.length k=some j/\Q (dz H p (.lst (xs.set j v)))
theorem II:UR X Vb:=by
 intro ċ s σ H o i v ov iv u Q I ro ri rv h;obtain⟨p,xs,k,j,rfl,rfl,hp,hj,q⟩:=h;cases ro;obtain⟨t,rfl⟩:=ri;obtain⟨az,n,r,ho,hz⟩:=I.lst hp;obtain⟨h1,h2,h3,h4⟩:=EW hj;have hl:=r.length;have hn:=yB;have I'  :=
  I.lstUpd hp ho (CQ az n j u) (r.set rv j) (by rw[abu];exact hz) s.toks
 by_cases h0:0<=k
 ·have hk:=by
   rw[seqIndex_of h0 h4] at h1;exact aaP h1
  exact PySem.W.ki_setAt ho h0 (by lia) (by rw[aaz,←hl];exact h4) (by rw[hk];exact⟨_,I',q⟩)
 ·have hk:(k+(az.toArray.size:Int)).toNat=j:=by
   rw[seqIndex_neg (by lia) h3] at h1;rw[aaz,←hl];exact aaP h1
  exact PySem.W.ki_setBack ho (by lia) (by rw[aaz,←hl];exact h3) (by lia) (by rw[hk];exact⟨_,I',q⟩)
theorem yE (lo hi:Option Int)(n:Nat):(aex lo hi none n).1=((HT.sIx n 0 lo:Nat):Int)/\(aex lo hi none n).2.1=((HT.sIx n n hi:Nat):Int)/\(aex lo hi none n).2.2=1:=by
 refine⟨?_,?_,rfl⟩
 ·cases lo with
  |none=>rfl
  |some i=>
   simp only[aex,HT.sIx,aeW,show (1:Int)>0 by decide,if_true];by_cases h:i<0
   ·simp only[h,if_true]<;>(simp;lia)
   ·simp only[h,if_false]<;>(simp at *;lia)
 ·cases hi with
  |none=>rfl
  |some i=>
   simp only[aex,HT.sIx,aeW,show (1:Int)>0 by decide,if_true];by_cases h:i<0
   ·simp only[h,if_true]<;>(simp;lia)
   ·simp only[h,if_false]<;>(simp at *;lia)
theorem wZ (az:List aao)(lo hi:Option Int):slicePick az.toArray lo hi none=((az.drop (HT.sIx az.length 0 lo)).take (HT.sIx az.length az.length hi-HT.sIx az.length 0 lo)).toArray:=by
 obtain⟨h1,h2,h3⟩:=yE lo hi _;unfold slicePick;rw[h1,h2,h3];simp only[sliceRange_one,pick_run]<;>rfl
def Nm (K:aam):V->Option Int->Option Int->Hp->VK->Prop:=λx lo hi H Q=>∃a xs,x=.ref a/\g_ K H a xs/\∀p,H p=none->Q (.ref p) (dz H p (.lst (yC xs lo hi)))
theorem Nn:IG X (Nm X.K):=by
 intro ċ s σ H x v vl vu lo hi sl Q I rx hs pl pu h;obtain⟨a,xs,rfl,hx,q⟩:=h;cases rx;obtain⟨az,r,ht,hz⟩:=I.list hx;have jS:=r.length;refine⟨"list",_,slot_list_getitem.lookup,ht.isList.typeIs,?_⟩;refine wpAny_getItem_list_slice ht.isList hs pl pu .none (by simp) ?_ (by simp_all);rw[wZ,←jS];refine⟨.ref _,_,I.laid (λb ob q=>aak _ q) (aaq _) ?_,rfl,q _ (I.hok.fresh (aaq _))⟩;exact⟨abl (rD xs lo hi) hz,_,0,(r.drop _).take _,aas _ rfl⟩
theorem aE:eW X (.type "tuple") (λxs H Q=>∃p ys,xs=[.ref p]/\((g_ X.K H p ys/\∀l,H l=none->Q (.ref l) (dz H l (.tup ys)))\/(iG X.K H p ys/\Q (.ref p) H))):=by
 intro ċ s σ H xs us Q I r h;obtain⟨p,ys,rfl,h⟩:=h;obtain⟨u,rfl,rx⟩:=i9 r;cases rx;rcases h with⟨hq,q⟩|⟨hq,q⟩
 ·obtain⟨az,r',pl,hz⟩:=I.list hq;have jS:=r'.length;refine call_tuple_list pl.isList (λh' kp=>?_) (by simp only[aaz]<;>simp_all);have I1:=I.kept (t':=s.toks) kp;have I2  :=
   I1.laid (t':=s.toks) (λb o e=>aak _ e) (aaq _) (show cR _ X.w _ _ _ (.tup ys) from ⟨hz,az,r',IsTup.new _ _,_,aas _ rfl⟩)
  exact⟨.ref _,_,I2,rfl,q _ (I1.hok.fresh (aaq _))⟩
 ·obtain⟨az,r',pl,hz⟩:=I.tuple hq;exact call_tuple_same pl ⟨.ref p,H,I,rfl,q⟩
def Ye (K:aam)(T:String)(x:V)(H:Hp):Prop:=match x with
 | .str _=>T="str"
 | .int _=>T="int"
 | .ref p=>(T="list"/\∃xs,g_ K H p xs)\/(T="tuple"/\((∃o,K.lookup p=some o/\o.cls=.type "tuple"/\o.dict=none)\/∃xs,H p=some (.tup xs))) \/
   (T="dict"/\((∃bw,H p=some (.dK bw))\/∃bw,H p=some (.dT bw)))\/(T="set"/\∃S n,H p=some (.set S n))
 |_=>False
theorem RW {x:V}{v:aao}(I:aG X ċ σ H s)(r:aZ x v)(ty:Ye X.K T x H) :
  s.TypeIs v T/\∀a,v=.ref a->∃ob,s.heap.get? a=some ob/\ob.dict=none:=by
 cases x with
 |str z=>
  obtain⟨t,rfl⟩:=r;cases (show T="str" from ty);grind[typeIs_str]
 |int i=>
  obtain⟨t,rfl⟩:=r;cases (show T="int" from ty);grind[ae_]
 |ref p=>
  cases r;rcases ty with⟨rfl,xs,hq⟩|⟨rfl,⟨o,hk,hc,hd⟩|⟨xs,hq⟩⟩|⟨rfl,hk⟩|⟨rfl,S,n,hk⟩
  ·obtain⟨az,_,pl,_⟩:=I.list hq;refine⟨pl.isList.typeIs,λa e=>?_⟩;cases e;obtain⟨o,n,e,c,hd,_⟩:=pl;exact⟨o,e,hd⟩
  ·refine⟨⟨o,I.kIn p o hk,hc⟩,λa e=>?_⟩;cases e;exact⟨o,I.kIn _ o hk,hd⟩
  ·obtain⟨_,az,_,⟨o,e,c,_⟩,n2,e2⟩:=I.hok p _ hq;refine⟨⟨o,e,c⟩,λa e'=>?_⟩;cases e';exact⟨_,e2,rfl⟩
  ·have z:∃o,s.heap.get? p=some o/\o.ExactDict:=by
    rcases hk with⟨bw,hk⟩|⟨bw,hk⟩
    ·obtain⟨_,_,_,_,o,_,_,e,ex,_⟩:=I.hok p _ hk;exact⟨o,e,ex⟩
    ·obtain⟨_,_,_,_,o,_,_,e,ex,_⟩:=I.hok p _ hk;exact⟨o,e,ex⟩
   obtain⟨o,e,ex⟩:=z;refine⟨⟨o,e,ex.1⟩,λa e2=>?_⟩;cases e2;exact⟨o,e,ex.2.1⟩
  ·obtain⟨o,_,_,_,e,ex,_⟩:=I.hok p _ hk;refine⟨⟨o,e,ex.1⟩,λa e2=>?_⟩;cases e2;exact⟨o,e,ex.2.1⟩
 |_=>exact adF ty
def ZE (K:aam)(T:String)(r:V->List V->Hp->VK->Prop)(to:TE)(t:TA):TE:=λσ H Q=>to σ H λx H1=>Ye K T x H1/\t σ H1 λxs H2=>r x xs H2 Q
variable {o e:ab6}{es:List ab6}{to:TE}{t:TA}{name:Str}{fA μ:Pos}{id:String}{r:V->List V->Hp->VK->Prop}
theorem IJ (pa:PlainAttrs T)(slot:Slot T name id)(YY:typeOf (.builtin id)=pure (.type "method_descriptor"))(hm:Nk X id r)(ho:PE X o to)(ha:PA X (e::es) t)
  (wB:adH o name X.env (adM o X.env)=adM o X.env:=by rfl)
  (EE:((acy μ (aaN (e::es) X.env)).all (λx=> !x.1)&&(backToKw μ (aey [] X.env)).all (λx=>x.1.isSome)
   && decide ((e::es).length+([]:List aed).length+(if ([]:List aed).isEmpty then 0 else 1)<30))=true:=by rfl)
  (wC:(fA.endLine==μ.line)=true:=by rfl) (hs:aaN (e::es) X.env=(false,adM e X.env)::aaN es X.env:=by rfl) (oJ:(acy μ (aaN es X.env)).any (·.1)=false:=by rfl) :
  PE X (.Call (.Attribute o name fA) (e::es) [] μ) (ZE X.K T r to t):=by
 intro ċ s σ H Q I h;refine wpAny_Call_method_late wB EE wC rfl (fg (ho ċ s σ H _ I h) λv s1 ⟨x,H1,I1,r1,ty,q1⟩=>?_);obtain⟨h1,h2⟩:=RW I1 r1 ty;refine⟨T,id,pa,slot,YY,h1,h2,?_⟩;have hA:=ha μ ċ s1 σ H1 _ I1 q1;rw[hs] at hA ⊢;refine aeo (by show (false||(acy μ _).any _)=false;rw[oJ]<;>rfl) (Calls.evalArgs_plain ?_);exact fg hA λus s2 ⟨vs,H2,I2,r2,q2⟩=>hm ċ s2 σ H2 x vs v us Q I2 r1 r2 q2
end
end L2
namespace L2
def Yf (X:Cx)(id:String)(r:V->List V->Hp->VK->Prop):Prop:=
 ∀(ċ:List (aaL×Obj)) (s:aaE) (σ:St) (H:Hp) (x:V) (xs:List V) (v:aao) (us:List aao) (Q:VK),aG X ċ σ H s->aZ x v->bf xs us->r x xs H Q->
  aaT (aaX X.prog X.w) X.A (call (.builtin id) (v::us)) (EP X ċ σ Q) X.xe s
theorem bf.one:∀{x:V} {us:List aao},bf [x] us->∃u,us=[u]/\aZ x u
 |_,_,.cons r .nil=>⟨_,rfl,r⟩
theorem bf.eraseIdx:∀{xs:List V} {us:List aao} (i:Nat),bf xs us->bf (xs.eraseIdx i) (us.eraseIdx i)
 |_,_,_,.nil=>.nil
 |_,_,0,.cons _ t=>t
 |_,_,i+1,.cons r t=>.cons r (bf.eraseIdx i t)
theorem xF {α:Type}:∀(l:List α) (i:Nat),(l.eraseIdx i).length<=l.length
 | [],_=>aaq _
 |_::_,0=>Nat.le_succ _
 |_::r,i+1=>Nat.succ_le_succ (xF r i)
section
variable {l:aaL}{ys zs:List V}
theorem aG.lset {t':Nat}{tR:List aao}{f:Array aao->Array aao}(I:aG X ċ σ H s)(hH:H l=some (.lst xs))(e:s.heap.get? l=some {cls:=.type "list",data:=.seq az.toArray n})(hf:f az.toArray=tR.toArray)(hv:bf ys tR)(hz:ys.length<=aaf) :
  aG X ċ σ (dz H l (.lst ys)) {s with heap:=s.heap.update l (Obj.mapSeq f),toks:=t'}:=by
 have q:=PySem.IsL.update e f;rw[hf] at q;refine I.write (by rw[hH];exact trivial) (.inl rfl) (λb' u hb hu=>(Heap.get?_update_other _ _ (Ne.symm hb)).trans hu) ⟨_,q⟩ ?_;exact⟨hz,tR,_,hv,q⟩
theorem aG.lnew {t':Nat}(I:aG X ċ σ H s)(hv:bf ys az)(hz:ys.length<=aaf) :
  aG X ċ σ (dz H s.heap.objs.size (.lst ys)) {s with heap:=s.heap.push {cls:=.type "list",data:=.seq az.toArray},toks:=t'}:=
 I.laid (λ_ _ q=>aak _ q) (aaq _) ⟨hz,az,0,hv,aas _ rfl⟩
theorem aG.fresh (I:aG X ċ σ H s):H s.heap.objs.size=none:=I.hok.fresh (aaq _)
theorem aG.lstM (I:aG X ċ σ H s)(hH:H l=some (.lst xs)):xs.length<=aaf/\∃(az:List aao) (n:Nat),bf xs az/\xs.length=az.length/\s.heap.get? l=some {cls:=.type "list",data:=.seq az.toArray n}:=by
 obtain⟨z,az,n,r,e⟩:=I.hok l _ hH;exact⟨z,az,n,r,r.length,e⟩
theorem uv (h:n<=aaf):ad6 n=false:=by
 exact hJ (by simp[*])
end
def EY:V->List V->Hp->VK->Prop:=λx vs H Q=>∃l xs y,x=.ref l/\vs=[y]/\H l=some (.lst xs)/\xs.length<aaf/\Q .non (dz H l (.lst (xs++[y])))
theorem dW:Yf X "list.append" EY:=by
 intro ċ s σ H x vs v us Q I rx rv h;obtain⟨l,xs,y,rfl,rfl,hH,hz,q⟩:=h;cases rx;obtain⟨u,rfl,ru⟩:=rv.one;obtain⟨z,az,n,r,hl,e⟩:=I.lstM hH;refine adb F.slot_list_append ⟨_,e,rfl⟩ F.entry_list_append (F.args_list_append_2 _ _) (PySem.list_append l _ n u (by rw[aaz];simp_all)) ⟨e,?_⟩;refine⟨.non,_,I.lset hH e (by simp) (r.append (.cons ru .nil)) ?_,rfl,q⟩;rw[aay,acj];assumption
def IK:V->List V->Hp->VK->Prop:=λx vs H Q=>∃l xs i k y,x=.ref l/\vs=[.int i]/\H l=some (.lst xs)/\ -(2 ^ 63)<=i/\i<2 ^ 63/\afM i xs.length=some k/\xs[k]? = some y/\Q y (dz H l (.lst (xs.eraseIdx k)))
theorem IL:Yf X "list.pop" IK:=by
 intro ċ s σ H x vs v us Q I rx rv h;obtain⟨l,xs,i,k,y,rfl,rfl,hH,h1,h2,hk,hy,q⟩:=h;cases rx;obtain⟨u,rfl,ru⟩:=rv.one;obtain⟨t,rfl⟩:=ru;obtain⟨z,az,n,r,hl,e⟩:=I.lstM hH;obtain⟨w,hw,Ct⟩:=r.get hy;refine adb F.slot_list_pop ⟨_,e,rfl⟩ F.entry_list_pop (F.args_list_pop_2 _ _)
  (MeetsSeq.list_pop_at l _ n i t k w (fitsIndex_both h1 h2) (by grind) (by grind) (by rw[aaz];simp_all)) ⟨e,?_⟩
 refine⟨y,_,I.lset hH e ?_ (r.eraseIdx k) ?_,Ct,q⟩
 ·simp
 ·have:=xF xs k;lia
section
variable {A:abd}
set_option maxRecDepth 100000 in
end
end L2
namespace Att
open PySem.W PySem.Calls
theorem sU {P:Params}:∀(ns:List Int) (vs:List aao),WellAll P h vs (ns.map WData.int)->aeg vs ns:=by
 intro ns
 induction ns with
 |nil=>
  intro vs w;cases w;exact .nil
 |cons n ns ih=>
  intro vs w;cases w with
  |cons a b=>
   cases a;exact .cons _ _ (ih _ b)
theorem GX {l:OpenLaw}(hn:l.most=some n){P:Params}{args:List WData}{Ua:List aao}(Pq:l.row.toRowW.claim.pre args=true)(YZ:WellAll P h Ua args) :
  ∃a vs ns,Ua=[Value.ref a]/\args=[WData.list (ns.map WData.int)]/\h.get? a=some {cls:=.type "list",data:=.seq vs.toArray}/\aeg vs ns/\ns.length<=n:=by
 have hsh:=(pre_splitW Pq).1;have hc:l.pre.holds [] _=true:=(pre_splitW Pq).2;obtain⟨d,r,rfl,h1,h2⟩:=hasAllW_cons hsh;obtain rfl:=hasAllW_nil h2;obtain⟨xs,rfl,h3⟩:=hasW_list h1;obtain⟨ns,rfl⟩:=items_int h3;have jS:=by
  have h4:=by
   have h4:=(holds_andW hc).1;rw[hn] at h4;exact h4
  have h5:=condW_of h4 (w_not (w_lt w_lit (w_len_list (w_arg rfl))))
  first
   | (exact absurd h5 (by decide))
   | (simp at h5;omega)
 cases YZ with
 |cons w1 w2=>
  cases w2;cases w1 with
  |list ho MJ=>exact⟨_,_,ns,rfl,rfl,ho,sU ns _ MJ,jS⟩
theorem GY (l:OpenLaw)(args:List WData):l.row.toRowW.claim.post args (.bool true) args=true:=
 postW_of
  (show WShape.has [] _ _=true by rfl)
  (show (WTm.eq .res _).value [] _=some _ from w_eq_bool (w_res rfl) w_lit) rfl
theorem attach_call {l:OpenLaw}{d:DefRec}(hn:l.most=some n)(WT:d.params.defaults=[])(call:∀(w:ac2) (s₀ ξ:aaE) (mg mb:Str->Option aao) (fa:aaL) (o:Obj) (pm cd qk:aao) (a:aaL) (vs:List aao) (ns:List Int),
   Ground q Ρ [] XP w s₀ mg mb ξ.heap->YP w ξ.heap->
   ξ.heap.get? fa=some o->o.data=.func (docDef d.name d.params d.body d.scope pm cd qk)->ξ.heap.CodeRec cd d.name->mg d.name=some (.ref fa)->
   ξ.heap.get? a=some {cls:=.type "list",data:=.seq vs.toArray}->aeg vs ns->ns.length<=n->ξ.gens=#[]->
   codeAny (aaX l.prog w) callerA (.call (.ref fa) ⟨[.ref a],[]⟩) (λr s'=>r=.ok (.ret (.bool true))/\OldK ξ.heap s'.heap/\s'.os=ξ.os/\AllBare s'.gens) ξ) :
  WalkO q Ρ XP YP l.row.toRowW d [] (λf vs=>PySem.call f vs):=by
 intro w s₀ ξ mg mb G Y fa o pm cd qk dV kV ho hd nE hD WU hg args Ua as Pq aa3 hrd YZ hlo;obtain rfl:dV=.none:=Dflts.none hD WT;obtain rfl:kV=.none:=Dflts.noKw hD;obtain⟨a,vs,ns,rfl,rfl,Ub,My,jS⟩:=GX hn Pq YZ;refine enter_call (aeK (call w s₀ ξ mg mb fa o pm cd qk a vs ns G Y ho (fd_plain hd) nE WU Ub My jS hg) λr s' hq=>?_);obtain⟨rfl,h2,h3,h4⟩:=hq;exact⟨.inl ⟨.bool true,.bool true,[],rfl,λ_=>rfl,.bool true,GY l _,λ_=>⟨List.Pairwise.nil,λ_ hm=>(nomatch hm)⟩⟩,h2,h3,h4⟩
end Att
namespace L2
theorem qp:∀{vs:List aao} {ns:List Int},aeg vs ns->bf (ns.map V.int) vs
 |_,_,.nil=>.nil
 |_,_,.cons n t h=>.cons ⟨t,rfl⟩ (qp h)
def Np (H:Hp):Prop:=∀b,H b=none\/∃o xs,H b=some (.frz o (.lst xs))
theorem IM {mb:Str->Option aao}{fa:aaL}{ξ:aaE}{vs:List aao}(KX:K.In ξ.heap)(Z_:ξ.heap.Ns abg mg)(hb:ξ.heap.Ns builtinsNs mb)(hbb:∀x:Str,x≠"__name__"->mb x=abk x)(Y0:ξ.heap.NoLimit)(hg:ξ.gens=#[])(ha:ξ.heap.get? a=some {cls:=.type "list",data:=.seq vs.toArray})(hi:aeg vs ns)(hl:ns.length<=aaf)(hr:gD k callerA)(F:∀base:ac5,K.In base->base.Ns abg mg->ny P w K mg base CX k fa fd [x] sp)(WV:∀(s:aaE) (u:aao),BindsTo s fd ⟨[u],[]⟩ [(x,u)])(Rh:∀H:Hp,Np H->g_ K H a (ns.map V.int)->sp [.ref a] H (λv _=>v=.bl true) λ_ _ _=>False)(Y1:∀H e s',CX [] H ξ (λ_ _ _=>False) e s'->False) :
  codeAny (aaX P w) callerA (.call (.ref fa) ⟨[.ref a],[]⟩) (λr s'=>r=.ok (.ret (.bool true))/\OldK ξ.heap s'.heap/\s'.os=ξ.os/\AllBare s'.gens) ξ:=by
 have rv:=qp hi;have Y2:=hi.length;have WW:∀H ,Np H->g_ K H a (ns.map V.int)->lX P w H ξ.heap->(∀b,H b≠none->b=a)->(H a≠none->K.lookup a=none)->
   codeAny (aaX P w) callerA (.call (.ref fa) ⟨[.ref a],[]⟩) (λr s'=>r=.ok (.ret (.bool true))/\OldK ξ.heap s'.heap/\s'.os=ξ.os/\AllBare s'.gens) ξ:=by
  intro H hO hS hok hA hK;have GF:∀{b:aaL} {o:Obj},ξ.heap.get? b=some o->H b=none->(GN _ H).get? b=some o:=λe n=>Im e n;have WQ:∀{b:aaL} {o:Obj} {es:Array _} {ep:Nat},ξ.heap.get? b=some o->o.data=.dict es ep->H b=none:=λ{b o es ep} e d=>by
   grind
  have XM:∀{b:aaL} {m:Str->Option _},ξ.heap.Ns b m->(GN _ H).Ns b m:=λ{b m} ⟨o,es,ep,e,d,r⟩=>⟨o,es,ep,GF e (WQ e d),d,r⟩;have õ:=λb o e=>GF (KX b o e) (by
   grind)
  have hM:Mod K mg _:=⟨õ,XM Z_,⟨mb,XM hb,hbb⟩,let ⟨mc,h1,h2⟩:=Y0;⟨mc,XM h1,h2⟩⟩;have e0:Nf P w K mg _ callerA [] ξ H:=⟨rfl,hM,λb o e=>MW e,Nat.le_of_eq (GO _ _),trivial,λb hb=>absurd (show b∈([]:List aaL) from hb) (by simp),hok,.of_eq hg⟩;refine aeK ((F _ õ (XM Z_)).run _ [] ξ H _ _ [.ref a] _ _ hr e0 (WV ξ _) (.cons rfl .nil) (Rh H hO hS)) λr s' h=>?_;cases r with
  |error e=>exact (Y1 H e s' h).elim
  |ok fl=>
   cases fl with
   |next=>exact adF h
   |brk=>exact adF h
   |cont=>exact adF h
   |ret u=>
    obtain⟨v,H',os,bare,un,hok',r',q⟩:=h;have q' :=q;subst q';obtain rfl:u=Value.bool true:=r';refine⟨rfl,OldK.of_keep λb o e=>?_,os,bare⟩;cases q:H b with
    |none=>exact un.keep b o e q (by intro z;exact absurd (show b∈([]:List aaL) from z) (by simp)) (by simp)
    |some u=>
     rcases hO b with z|⟨ob,xs,z⟩
     ·lia
     ·have z2:=un.frzs b ob _ z;obtain⟨e1,_⟩:=hok b _ z;obtain⟨e2,_⟩:=hok' b _ z2;lia
 cases hk:K.lookup a with
 |some o=>
  have e:=KX a o hk;rw[ha] at e;cases e;refine WW _ (λ_=>.inl rfl) (.inr ⟨_,vs.toArray,_,hk,rfl,rfl,rfl,by rw[aaz,Y2];exact hl,by simpa using rv⟩) (λb u z=>by lia) (λb z=>absurd rfl z) λz=>absurd rfl z
 |none=>
  refine WW (λb=>if b=a then some _ else none) (λb=>?_) (.inl (.inr ⟨{cls:=.type "list",data:=.seq vs.toArray},hZ rfl⟩)) (λb u z=>?_) (λb z=>?_) λ_=>hk
  ·grind
  ·by_cases hb:b=a
   ·have z':=(hZ hb).symm.trans z;cases z';subst hb;exact⟨ha,by rw[aaa];exact hl,vs,_,rv,ha⟩
   lia
  lia
end L2
namespace L2
theorem walk_of {l:PySem.W.OpenLaw}{d:DefRec}{K:Params->aam}{CX:ac2->CXT}{sp:ac2->Sp}(hn:l.most=some n)(Y3:n<=aaf)(WT:d.params.defaults=[])(hr:gD k callerA)(hY:∀(w:ac2) (h:ac5),YP w h->(K w.params).In h)(F:∀(w:ac2) (mg:Str->Option aao) (fa:aaL) (h:ac5),(K w.params).In h->h.Ns abg mg->mg d.name=some (.ref fa)->
   ∃fd:ae2,(∀(s:aaE) (u:aao),BindsTo s fd ⟨[u],[]⟩ [(x,u)])/\
    ∀base:ac5,(K w.params).In base->base.Ns abg mg->ny l.prog w (K w.params) mg base (CX w) k fa fd [x] (sp w))(Rh:∀(w:ac2) (H:Hp) (a:aaL) (ns:List Int),ns.length<=n->Np H->g_ (K w.params) H a (ns.map V.int)->sp w [.ref a] H (λv _=>v=.bl true) λ_ _ _=>False)(Y1:∀(w:ac2) (H:Hp) (s:aaE) (e:aao) (s':aaE),CX w [] H s (λ_ _ _=>False) e s'->False) :
  PySem.W.WalkO q Ρ XP YP l.row.toRowW d [] (λf vs=>PySem.call f vs):=by
 refine Att.attach_call hn WT λw s₀ ξ mg mb fa o pm cd qk a vs ns G Y ho hd nE WU Ub My jS hg=>?_;have KX:=hY w _ Y;obtain⟨fd,hb,hF⟩:=F w mg fa _ KX G.T.g WU;exact IM KX G.T.g G.T.b G.T.builtins G.T.nolimit hg Ub My (abl jS Y3) hr hF hb (λH hO hS=>Rh w H a ns jS hO hS) λH e s'=>Y1 w H ξ e s'
end L2
namespace L2
abbrev AA:CXT:=λ_ _ _ _ _ _=>False
abbrev E0:XK:=λ_ _ _=>False
def Vc:CM AA X E0:=λ_ _ _ _ _ _ _ h=>h.elim
structure MM (K:aam)(x qual:Str)(st:adN)(f:aaL)(fd:ae2):Prop where
 ex:∃(oc:aao) (od:Option aaL) (kV qk pm:aao) (an:Option aaL) (cY ct:aao) (Rg:Array (Option aao)),
  fd=acb x qual (gE st) (c_ st) (ao st) .none kV qk pm an cY ct/\K.lookup f=some ⟨oc,od,.func fd,Rg⟩/\afD K cY qual=true
 kp:ada K (.ref f)=true
section
variable {base:ac5}
theorem MM.ok (F:MM K x qual st f fd)(S:aI N ps (ao st))(len:∀vs H Q E,sp vs H Q E->vs.length=ps.length)(jJ:∀(cY:aao) (A:abd) (Č:List Env) (s:aaE) (H:Hp) (vs:List V) (Q:VK) (E:XK),gD k (A.deeper (afv qual (ao st) s.heap.objs.size f cY))->sp vs H Q E->
   ∃t,wY (sT AA P w K mg base N qual (ao st) f cY A Č s H E).nox (c_ st) t/\t {nx:=λ_ H'=>Q .non H',rt:=Q} (aeV N vs) H):ny P w K mg base AA (k+1) f fd ps sp:=by
 obtain⟨oc,od,kV,qk,pm,an,cY,ct,Rg,rfl,lk,nE⟩:=F.ex;refine U5 lk nE S len λA Č s H vs Q E hr Rh=>?_;obtain⟨t,h,q⟩:=jJ cY A _ s H vs Q E hr Rh;exact⟨t,h.nox,q⟩
theorem MM.binds (F:MM K x qual st f fd)(h:∀(kV qk pm:aao) (an:Option aaL) (cY ct:aao) (us:List aao),us.length=ps.length->bindArgs (acb x qual (gE st) (c_ st) (ao st) .none kV qk pm an cY ct) ⟨us,[]⟩=pure (ps.zip us)):xA K fd ps []:=by
 obtain⟨oc,od,kV,qk,pm,an,cY,ct,Rg,rfl,lk,nE⟩:=F.ex;exact .all (h kV qk pm an cY ct)
def IP {oc:aao}{od an:Option aaL}{Rg:Array (Option aao)}{kV qk pm cY ct:aao}(l:K.lookup f=some ⟨oc,od,.func (acb x qual (gE st) (c_ st) (ao st) .none kV qk pm an cY ct),Rg⟩)(c:afD K cY qual=true)(k:ada K (.ref f)=true):MM K x qual st f (acb x qual (gE st) (c_ st) (ao st) .none kV qk pm an cY ct):=⟨⟨oc,od,kV,qk,pm,an,cY,ct,Rg,rfl,l,c⟩,k⟩
end
theorem bW {A:abd}(hr:gD k A):A.units+1<abW:=ab8 (Nat.add_le_add_left (by decide:1<=64) _) hr.units
def aO (H H':Hp):Prop:=∀b o,H b=some o->H' b=some o
theorem aO.refl (H:Hp):aO H H:=λ_ _ h=>h
theorem aO.trans (a:aO H H1)(b:aO H1 H2):aO H H2:=λc o h=>b c o (a c o h)
theorem aO.seq (e:aO H H')(h:g_ K H a xs):g_ K H' a xs:=by
 rcases h with (h|⟨o,h⟩)|h
 ·exact .inl (.inl (e _ _ h))
 ·exact .inl (.inr ⟨o,e _ _ h⟩)
 ·exact .inr h
end L2
namespace L2
section
variable {κ:Type}[DecidableEq κ]
def sV (bw:List (κ×V))(k:κ):Option V:=(bw.find? λkv=>decide (kv.1=k)).map (·.2)
noncomputable def qr (bw:List (κ×V))(k:κ)(v:V):List (κ×V):=
 if (bw.any λkv=>decide (kv.1=k))=true then bw.map (λkv=>if kv.1=k then (kv.1,v) else kv) else bw++[(k,v)]
theorem oN {p:κ×V}{r:List (κ×V)}{k:κ}(e:p.1=k):sV (p::r) k=some p.2:=by simp[sV,e]
theorem oO {p:κ×V}{r:List (κ×V)}{k:κ}(e:¬p.1=k):sV (p::r) k=sV r k:=by simp[sV,e]
theorem AB (k:κ):∀bw:List (κ×V),(bw.any λkv=>decide (kv.1=k))=(sV bw k).isSome
 | []=>rfl
 |p::r=>by
  rw[List.any_cons];by_cases e:p.1=k
  ·simp only[oN e,hG e,Bool.true_or,Option.isSome_some]
  ·rw[oO e,hJ e];exact AB k r
theorem rE (bw:List (κ×V))(k:κ)(v:V):(qr bw k v).length<=bw.length+1:=by
 unfold qr;split
 ·rw[aaa];lia
 ·rw[aay,aaw,abH];lia
theorem nZ.isSome_eq {o:Option V}{u:Option aao}(r:nZ o u):o.isSome=u.isSome:=by
 cases o with
 |none=>cases u with
  |none=>rfl
  |some _=>exact (show False from r).elim
 |some _=>cases u with
  |none=>exact (show False from r).elim
  |some _=>rfl
theorem nZ.getD {o:Option V}{u:Option aao}{d:V}{d':aao}(r:nZ o u)(rd:aZ d d'):aZ (o.getD d) (u.getD d'):=by
 cases o with
 |none=>cases u with
  |none=>exact rd
  |some _=>exact (show False from r).elim
 |some _=>cases u with
  |none=>exact (show False from r).elim
  |some _=>exact r
theorem KV.val {bw:List (κ×V)}{vs:List (κ×aao)}(r:KV bw vs)(k:κ):nZ (sV bw k) (valueAt vs k):=by
 induction r with
 |nil=>exact True.intro
 | @cons p q ps qs h t ih=>
  obtain⟨h1,h2⟩:=h;by_cases e:p.1=k
  ·have e' :=h1.symm.trans e;have b:valueAt (q::qs) k=some q.2:=by simp[valueAt,e']
   rw[oN e,b];exact h2
  grind[valueAt,oO]
theorem KV.any {bw:List (κ×V)}{vs:List (κ×aao)}(r:KV bw vs)(k:κ):(bw.any λkv=>decide (kv.1=k))=vs.any λkv=>decide (kv.1=k):=by
 induction r with
 |nil=>rfl
 |cons h t ih=>rw[List.any_cons,List.any_cons,ih,h.1]
theorem KV.repl {bw:List (κ×V)}{vs:List (κ×aao)}(r:KV bw vs)(k:κ){u:aao}(ry:aZ y u) :
  KV (bw.map λkv=>if kv.1=k then (kv.1,y) else kv) (vs.map λkv=>if kv.1=k then (kv.1,u) else kv):=by
 induction r with
 |nil=>exact .nil
 | @cons p q ps qs h t ih=>
  rw[aal,aal];refine .cons ?_ ih;lia
theorem KV.put {bw:List (κ×V)}{vs:List (κ×aao)}(r:KV bw vs)(k:κ){u:aao}(ry:aZ y u):KV (qr bw k y) (stored vs k u):=by
 unfold qr stored;rw[r.any k];by_cases e:(vs.any λkv=>decide (kv.1=k))=true
 ·rw[hZ e,hZ e];exact r.repl k ry
 ·rw[hV e,hV e];exact Paired.snoc r ⟨rfl,ry⟩
theorem KV.length {bw:List (κ×V)}{vs:List (κ×aao)}(r:KV bw vs):bw.length=vs.length:=aea r
end
theorem AD {k:Key}{u:aao}(r:aZ (kV k) u):(fH P w).is k u=true:=by
 cases k with
 |inl i=>obtain⟨t,e⟩:=(show ∃t,u=Value.int i t from r);subst e;exact As P w i t
 |inr x=>obtain⟨t,e⟩:=(show ∃t,u=Value.str x t from r);subst e;exact Au P w x t
theorem xG {P:adf}{w:ac2}:∀{ks:List Key} {us:List aao},bf (ks.map kV) us->ItemsAre (fH P w) ks us
 | [],_,r=>by cases r;exact .nil
 |k::ks,_,r=>by
  cases r with
  |cons h t=>exact .cons (AD h) (xG t)
abbrev KT (H:Hp):List (List Key×V)->List (List Key×aaL×aao)->Prop:=afJ λp q=>p.1=q.1/\H q.2.1=some (.tup (p.1.map kV))/\aZ p.2 q.2.2
theorem KT.val {xs:List (List Key×aaL×aao)}(r:KT H bw xs)(k:List Key):nZ (sV bw k) ((atKey xs k).map (·.2)):=by
 induction r with
 |nil=>exact True.intro
 | @cons p q ps qs h t ih=>
  obtain⟨h1,_,h2⟩:=h;by_cases e:p.1=k
  ·have e' :=h1.symm.trans e;have b:atKey (q::qs) k=some q.2:=by simp[atKey,e']
   rw[oN e,b];exact h2
  grind[atKey,oO]
theorem KT.repl {xs:List (List Key×aaL×aao)}(r:KT H bw xs)(k:List Key){u:aao}(ry:aZ y u) :
  KT H (bw.map λkv=>if kv.1=k then (kv.1,y) else kv) (xs.map (putAt k u)):=by
 induction r with
 |nil=>exact .nil
 | @cons p q ps qs h t ih=>
  rw[aal];refine .cons ?_ ih;obtain⟨h1,h2,h3⟩:=h;unfold putAt;by_cases e:p.1=k
  ·rw[hZ e,hZ (h1.symm.trans e)];exact⟨h1,h2,ry⟩
  ·rw[hV e,hV (λz=>e (h1.trans z))];exact⟨h1,h2,h3⟩
theorem KT.put {xs:List (List Key×aaL×aao)}(r:KT H bw xs)(k:List Key){u:aao}(hb:H b=some (.tup (k.map kV)))(ry:aZ y u) :
  KT H (qr bw k y) (storedH xs k b u):=by
 have e:(bw.any λkv=>decide (kv.1=k))=(atKey xs k).isSome:=by
  rw[AB,(r.val k).isSome_eq,aez]
 unfold qr storedH;rw[e];by_cases q:(atKey xs k).isSome=true
 ·rw[hZ q,hZ q];exact r.repl k ry
 ·rw[hV q,hV q];exact Paired.snoc r ⟨rfl,hb,ry⟩
theorem KT.keeps {xs:List (List Key×aaL×aao)}(r:KT H bw xs)(ht:∀b ys,H b=some (.tup ys)->H' b=some (.tup ys)):KT H' bw xs:=
 Paired.mapP r λ_ _ z=>⟨z.1,ht _ _ z.2.1,z.2.2⟩
theorem PQ {u:HO}(ok:lX P w H h)(e:Rd H a u):cR P w H h a u:=e.ok ok
theorem xH {bw:List (Key×V)}(ok:lX P w H h)(e:Rd H a (.dK bw)):bw.length<=aaf/\(a==acf)=false/\∃vs,KV bw vs/\h.DictOf (fH P w) a vs:=
 show cR P w H h a _ from PQ ok e
theorem Vd {bw:List (Key×V)}(ok:lX P w H h)(e:H a=some (.dK bw)):bw.length<=aaf/\(a==acf)=false/\∃vs,KV bw vs/\h.DictOf (fH P w) a vs:=xH ok (.inl e)
theorem uw {ks:List Key}(ok:lX P w H h)(e:H a=some (.tup (ks.map kV))):(tupleKind (fH P w)).is h ks a:=by
 obtain⟨_,az,r,⟨o,h1,h2,n,h3⟩,_⟩:=(show cR P w H h a _ from ok a _ e);exact⟨o,az.toArray,n,h1,h2,h3,by simpa using xG r⟩
theorem xI (ok:lX P w H h)(e:Rd H a (.dT bw)):bw.length<=aaf/\(a==acf)=false/\
  ∃xs,KT H bw xs/\h.DictOfH (tupleKind (fH P w)) a xs:=by
 obtain⟨z,y,xs,r,o,es,ep,h1,h2,h3,h4,h5⟩:=(show cR P w H h a _ from PQ ok e);refine⟨z,y,xs,r,o,es,ep,h1,h2,h3,h4,λx hx=>?_,h5⟩;have all:∀{l:List _} {m:List _},KT H l m->∀x∈m,(tupleKind (fH P w)).is h x.1 x.2.1:=by
  intro l m q
  induction q with
  |nil=>simp
  | @cons p q ps qs hq t ih=>
   intro x hx;rcases aaA.mp hx with e|hx
   ·subst e;exact uw ok (by rw[←hq.1];exact hq.2.1)
   ·exact ih x hx
 exact all r x hx
theorem EZ (ok:lX P w H h)(e:H a=some (.dT bw)):bw.length<=aaf/\(a==acf)=false/\
  ∃xs,KT H bw xs/\h.DictOfH (tupleKind (fH P w)) a xs:=xI ok (.inl e)
def IQ (H:Hp)(a:aaL)(y:V)(r:Option V):Prop:=
 (∃bw k,Rd H a (.dK bw)/\y=kV k/\r=sV bw k)\/∃bw k b,Rd H a (.dT bw)/\y=.ref b/\H b=some (.tup (k.map kV))/\r=sV bw k
def Ve (H:Hp)(a:aaL)(y v:V)(H':Hp):Prop:=
 (∃bw k,H a=some (.dK bw)/\y=kV k/\bw.length<aaf/\H'=dz H a (.dK (qr bw k v))) \/
 ∃bw k b,H a=some (.dT bw)/\y=.ref b/\H b=some (.tup (k.map kV))/\bw.length<aaf/\H'=dz H a (.dT (qr bw k v))
section
variable {u r:aao}{o:Option V}{A:abd}
theorem aG.big (I:aG X ċ σ H s):acf<s.heap.objs.size:=by
 have h:=(I.mod.glob.keeps I.bk).lt;exact adn (by decide) h
theorem GZ (hu:A.units+1<abW)(I:aG X ċ σ H s)(g:IQ H a y (some v))(ry:aZ y u)(h:∀w' s',aG X ċ σ H s'->aZ v w'->Q w' s') :
  aaT (aaX X.prog X.w) A (aew (.ref a) u) Q E s:=by
 rcases g with⟨bw,k,e,ey,l⟩|⟨bw,k,b,e,ey,eb,l⟩
 ·subst ey;obtain⟨z,hd,vs,rel,dd⟩:=xH I.hok e;obtain⟨w',hw,Ct⟩:=nZ.some_of (by rw[l];exact rel.val k);exact wpAny_getItem_of (AD ry) dd.mapOf hw (h w' _ (I.tok _) Ct)
 ·subst ey;cases (show u=Value.ref b from ry);obtain⟨z,hd,xs,rel,dd⟩:=xI I.hok e;obtain⟨w',hw,Ct⟩:=nZ.some_of (by rw[l];exact rel.val k);obtain⟨p,hp,Ar⟩:=Option.map_eq_some_iff.mp hw;refine wpAny_getItem_heap (aeh hu) (uw I.hok eb) dd hp ?_;rw[Ar];exact h w' _ (I.tok _) Ct
theorem Nq (hu:A.units+1<abW)(I:aG X ċ σ H s)(g:IQ H a y o)(ry:aZ y u)(h:∀s',aG X ċ σ H s'->Q (.bool (!o.isSome)) s') :
  aaT (aaX X.prog X.w) A (abM .NotIn u (.ref a)) Q E s:=by
 rcases g with⟨bw,k,e,ey,l⟩|⟨bw,k,b,e,ey,eb,l⟩
 ·subst ey;obtain⟨z,hd,vs,rel,dd⟩:=xH I.hok e;refine wpAny_notIn_of (AD ry) hd dd.mapOf ?_;rw[←(rel.val k).isSome_eq,←l];exact h _ (I.tok _)
 ·subst ey;cases (show u=Value.ref b from ry);obtain⟨z,hd,xs,rel,dd⟩:=xI I.hok e;refine wpAny_notIn_heap (aeh hu) (uw I.hok eb) hd dd ?_;have q:=(rel.val k).isSome_eq;rw[aez] at q;rw[←q,←l];exact h _ (I.tok _)
theorem t7 {t':Nat}{ob:HO}(I:aG X ċ σ H s)(mu:Us (H a))(hs:acL a s.heap h')(he:∃q,h'.get? a=some q)(new:cR X.prog X.w (dz H a ob) h' a ob) :
  aG X ċ σ (dz H a ob) {s with heap:=h',toks:=t'}:=
 I.write mu (.inl rfl) (λb q hb z=>(hs.2 b hb).trans z) he new
theorem RX {bw:List (Key×V)}{vs:List (Key×aao)}(z:bw.length<=aaf)(hd:(a==acf)=false)(rel:KV bw vs)(dd:h'.DictOf (fH P w) a vs) :
  cR P w H' h' a (.dK bw):=⟨z,hd,vs,rel,dd⟩
theorem G0 {Q:Unit->aaE->Prop}(hu:A.units+1<abW)(I:aG X ċ σ H s)(g:Ve H a y v H')(ry:aZ y u)(rv:aZ v r)(h:∀s',aG X ċ σ H' s'->Q () s') :
  aaT (aaX X.prog X.w) A (setItem (.ref a) u r) Q E s:=by
 rcases g with⟨bw,k,e,ey,l,eH⟩|⟨bw,k,b,e,ey,eb,l,eH⟩
 ·subst ey eH;obtain⟨z,hd,vs,rel,dd⟩:=Vd I.hok e;have hz:vs.length<=aaf:=by rw[←rel.length];exact z
  have hl:(qr bw k v).length<=aaf:=by grind[rE]
  refine wpAny_setItem_pairs (AD ry) dd λh' Ri hs=>h _ ?_;have he:∃q,h'.get? a=some q:=let ⟨q,_,_,hq,_⟩:=Ri;⟨q,hq⟩
  exact t7 I (by rw[e];exact True.intro) hs he (RX hl hd (rel.put k rv) Ri)
 ·subst ey eH;cases (show u=Value.ref b from ry);obtain⟨z,hd,xs,rel,dd⟩:=EZ I.hok e;have hz:xs.length<=aaf:=by rw[←aea rel];exact z
  have hl:(qr bw k v).length<=aaf:=by grind[rE]
  refine wpAny_setItem_heap (aeh hu) (uw I.hok eb) dd λh' Ri hs=>h _ ?_;obtain⟨q,es,ep,hq,h2,h3,h4,_,h5⟩:=Ri;refine t7 I (by rw[e];exact True.intro) hs ⟨q,hq⟩ ⟨hl,hd,_,(rel.put k eb rv).keeps λc ys ec=>?_,q,es,ep,hq,h2,h3,h4,h5⟩;rw[bB (UL ec e (λz=>nomatch z))];exact ec
end
def Nr (i:ab6):Prop:=∀ov iv,subscripted i false ov iv=operate [ov,iv] (aew ov iv)
theorem Nt {A:abd}{value τ:ab6}{pos:Pos}{id:String}(hl:typeLookup (.type T) "__getitem__"=pure (some (.builtin id)))(hs:Nr τ)(h:aaT (aaX prog w) A (adM value env) (λo ξ=>aaT (aaX prog w) A (adM τ env) (λi Ι=>Ι.TypeIs o T/\aaT (aaX prog w) A (aew o i) Q E Ι) E ξ) E s) :
  aaT (aaX prog w) A (adM (.Subscript value τ pos) env) Q E s:=by
 refine Subscript_ (abr h (λo ξ Ε=>abr Ε (λi Ι Ψ=>?_) λ_ _ x=>x) λ_ _ x=>x);obtain⟨hT,Ψ⟩:=Ψ;refine aab ?_;refine aab (ado hT hl ?_);have fin:aaT (aaX prog w) A (subscripted τ false o i) (λr Ν=>aaT (aaX prog w) A (letTemporaryGo value o r >>= λ_=>pure r) Q E Ν) E Ι:=by
  rw[hs o i];exact wpAny_operating (abr Ψ (λr Ν Å=>aab (wpAny_letTemporaryGo (aah Å))) λ_ _ x=>x)
 first
  |exact aah (aab fin)
  |exact aab _
  |exact aab fin
theorem AE {o:Option V}(I:aG X ċ σ H s)(g:IQ H a y o):s.TypeIs (.ref a) "dict":=by
 rcases g with⟨bw,k,e,_,_⟩|⟨bw,k,b,e,_,_,_⟩
 ·obtain⟨_,_,vs,_,dd⟩:=xH I.hok e;exact dd.typeIs
 ·obtain⟨_,_,xs,_,dd⟩:=xI I.hok e;exact dd.typeIs
theorem AF (h:ac5)(hb:acf<h.objs.size):cR P w H (h.push {cls:=.type "dict",data:=.dict #[]}) h.objs.size (.dK []):=
 ⟨abU _,beq_eq_false_iff_ne.mpr (Ne.symm (aaW hb)),[],.nil,Heap.DictOf.new h⟩
def RY:TE:=λ_ H Q=>∀p,H p=none->Q (.ref p) (dz H p (.dK []))
section
variable {pos:Pos}
def IS:PE X (.Dict [] [] pos) RY:=λċ s σ H Q I h=>
 wpAny_Dict_empty ⟨.ref _,_,I.laid (λ_ _ q=>aak _ q) (aaq _) (AF _ I.big),rfl,h _ (I.hok.fresh (aaq _))⟩
end
structure M1 (X:Cx)(o:ab6)(m:Str)(fA:Pos)(e:ab6)(μ:Pos):Prop where
 base:adH o m X.env (adM o X.env)=adM o X.env
 few:((acy μ (aaN [e] X.env)).all (λx=> !x.1)&&(backToKw μ (aey [] X.env)).all (λx=>x.1.isSome)
  && decide (([e]:List ab6).length+([]:List aed).length+(if ([]:List aed).isEmpty then 0 else 1)<30))=true
 line:(fA.endLine==μ.line)=true
 trees:acy μ (aaN [e] X.env)=[(false,adM e X.env)]
structure M2 (X:Cx)(o:ab6)(m:Str)(fA:Pos)(e f:ab6)(μ:Pos):Prop where
 base:adH o m X.env (adM o X.env)=adM o X.env
 few:((acy μ (aaN [e,f] X.env)).all (λx=> !x.1)&&(backToKw μ (aey [] X.env)).all (λx=>x.1.isSome)
  && decide (([e,f]:List ab6).length+([]:List aed).length+(if ([]:List aed).isEmpty then 0 else 1)<30))=true
 line:(fA.endLine==μ.line)=true
 trees:acy μ (aaN [e,f] X.env)=[(false,adM e X.env),(false,adM f X.env)]
def ZF (H:Hp)(a:aaL):Prop:=(∃bw,Rd H a (.dK bw))\/∃bw,Rd H a (.dT bw)
theorem RZ (I:aG X ċ σ H s)(d:ZF H a) :
  s.TypeIs (.ref a) "dict"/\(∀b,Value.ref a=.ref b->∃ob,s.heap.get? b=some ob/\ob.dict=none)/\(a==acf)=false:=by
 rcases d with⟨bw,e⟩|⟨bw,e⟩
 ·obtain⟨_,hd,vs,_,dd⟩:=xH I.hok e;refine⟨dd.typeIs,λb q=>?_,hd⟩;cases q;obtain⟨ob,_,_,h1,h2,_⟩:=dd;exact⟨ob,h1,h2.2.1⟩
 ·obtain⟨_,hd,xs,_,dd⟩:=xI I.hok e;refine⟨dd.typeIs,λb q=>?_,hd⟩;cases q;obtain⟨ob,_,_,h1,h2,_⟩:=dd;exact⟨ob,h1,h2.2.1⟩
section
variable {d:V}{u r:aao}{o:Option V}{A:abd}
theorem R0 (hu:A.units+1<abW)(I:aG X ċ σ H s)(g:IQ H a y o)(ry:aZ y u)(rd:aZ d r)(h:∀w' s',aG X ċ σ H s'->aZ (o.getD d) w'->Q w' s') :
  aaT (aaX X.prog X.w) A (call (.builtin "dict.get") [.ref a,u,r]) Q E s:=by
 rcases g with⟨bw,k,e,ey,l⟩|⟨bw,k,b,e,ey,eb,l⟩
 ·subst ey;obtain⟨z,hd,vs,rel,dd⟩:=xH I.hok e;refine call_meetsIn adp dd.typeIs aep (aei _ _ _) (meets_dict_get_default _ a (AD ry) hd r) ⟨_,dd.mapOf,h _ _ (I.tok _) ?_⟩;rw[l];exact (rel.val k).getD rd
 ·subst ey;cases (show u=Value.ref b from ry);obtain⟨z,hd,xs,rel,dd⟩:=xI I.hok e;refine call_meetsIn adp dd.typeIs aep (aei _ _ _) (meetsH_dict_get_default _ a b hd r) ⟨aeh hu,k,xs,uw I.hok eb,dd,h _ _ (I.tok _) ?_⟩;rw[l];exact (rel.val k).getD rd
end
end L2
namespace L2
end L2
namespace L2
theorem CS (hf:∀x,(x,NameKind.free)∈scope.names->∃c,env.cells.lookup x=some c) :
  ∃cl:List (Str×aaL),closureFor scope env=pure cl/\(∀x c,cl.lookup x=some c->env.cells.lookup x=some c)/\∀x,(x,NameKind.free)∈scope.names->∃c,cl.lookup x=some c:=by
 have gen:∀(names:List _) (cs:List _),(∀x,(x,NameKind.free)∈names->∃c,env.cells.lookup x=some c)->(∀x c,cs.lookup x=some c->env.cells.lookup x=some c)->
   ∃cl:List _,(forIn names cs λ(x:Str×afu) (r:List _)=>(match x with|(name,kind)=>if (kind==NameKind.free)=true then (do let a ←cellOf env name;pure (ForInStep.yield ((name,a)::r))) else pure (ForInStep.yield r):Sem _))=(pure cl:Sem _)/\
    (∀x c,cl.lookup x=some c->env.cells.lookup x=some c)/\(∀x c,cs.lookup x=some c->∃c',cl.lookup x=some c')/\∀x,(x,NameKind.free)∈names->∃c,cl.lookup x=some c:=by
  intro names
  induction names with
  |nil=>intro cs _ h;exact⟨cs,rfl,h,λx c e=>⟨c,e⟩,λx hx=>absurd hx (by simp)⟩
  |cons p r ih=>
   intro cs hn h;obtain⟨n,k⟩:=p;by_cases hk:k=NameKind.free
   ·subst hk;obtain⟨c,hc⟩:=hn n aae;have h':∀x c',((n,c)::cs).lookup x=some c'->env.cells.lookup x=some c':=λx c' e=>by
     grind
    obtain⟨cl,e1,e2,e3,e4⟩:=ih _ (λx hx=>hn x (aai _ hx)) h';refine⟨cl,?_,e2,λx c' e=>?_,λx hx=>?_⟩
    ·rw[aej];have:cellOf env n=pure c:=by unfold cellOf;rw[hc]
     simp only[this];exact e1
    ·by_cases hx:x=n
     ·subst hx;exact e3 x c (by simp)
     ·exact e3 x c' (by rw[aby,show (x==n)=false from by simpa using hx];exact e)
    ·rcases aaA.mp hx with e|hx
     ·cases e;exact e3 n c (by simp)
     ·exact e4 x hx
   ·obtain⟨cl,e1,e2,e3,e4⟩:=ih cs (λx hx=>hn x (aai _ hx)) h;grind
 obtain⟨cl,e1,e2,_,e4⟩:=gen _ [] hf (λx c e=>by simp at e);refine⟨cl,?_,e2,e4⟩;exact (congrArg (λm=>m >>= λr=>pure r) e1).trans rfl
structure t8 where
 C:aaL
 s:aaE
 H:Hp
 fp:List aaL
 ċ:List (aaL×Obj)
 cl:List (Str×aaL)
noncomputable def E1 (scope k9:ae3):ae3:=
 {scope with names:=scope.names.map λ(n,k)=>if (k==.free&&k9.kind==.function&&k9.names.lookup n==some .cell) then (n,.cell) else (n,k)}
structure Xq (k9:ae3)(NX:List Str)(scope:ae3)(N:List Str)(js:List (Option Nat)):Prop where
 kind:scope.kind=.function
 nocell:∀y∈scope.names,y.2≠.cell
 loc:∀y∈scope.names,y.2=.local->scope.names.lookup y.1=some .local
 len:js.length=N.length
 cap:∀(i j:Nat) (x:Str),js[i]? = some (some j)->N[i]? = some x->NX[j]? = some x/\scope.names.lookup x=some .free
 free:∀x,(x,NameKind.free)∈scope.names->k9.names.lookup x=some .cell\/k9.names.lookup x=some .free
noncomputable def sel (js:List (Option Nat))(σ:St):St:=js.map λo=>match o with
 |none=>none
 |some j=>match σ[j]? with
  |some v=>v
  |none=>none
theorem fS {env:Env}{x:Str}:∀{names:List (Str×afu)},names.lookup x=some .free->
  (names.map λ(n,k)=>if (k==NameKind.free&&env.scope.kind==.function&&env.kindOf n==some .cell) then (n,NameKind.cell) else (n,k)).lookup x=some .cell \/
  (names.map λ(n,k)=>if (k==NameKind.free&&env.scope.kind==.function&&env.kindOf n==some .cell) then (n,NameKind.cell) else (n,k)).lookup x=some .free
 | [],h=>by simp at h
 | (n,k)::r,h=>by
  rw[aal];by_cases hx:x==n
  ·grind
  ·have MS:=adI.mpr hx;rw[aby,MS] at h;have ih:=fS (env:=env) h;have e:∀p ,p.1=n->List.lookup x (p::(r.map λ(n,k)=>if (k==NameKind.free&&env.scope.kind==.function&&env.kindOf n==some .cell) then (n,NameKind.cell) else (n,k))) =
     List.lookup x _:=λp hp=>by
    cases hp;rw[aby,MS]
   rw[e _ (by dsimp only;split<;>rfl)];exact ih
def G2 (X:Cx)(wW:List ab6)(t:TT):Prop:=
 ∀(ċ:List (aaL×Obj)) (s:aaE) (σ:St) (H:Hp) (Q:Bool->Hp->Prop),aG X ċ σ H s->t σ H Q->
  aaT (aaX X.prog X.w) X.A (forIn wW true λc r=>if r=true then do let ok ←isTrue c X.env (adM c X.env);pure (ForInStep.yield ok) else pure (ForInStep.yield r)) (TP X ċ σ Q) X.xe s
def Yg:TT:=λ_ H Q=>Q true H
def IT:G2 X [] Yg:=λ_ _ _ H _ I h=>wpAny_tests_nil ⟨H,I,h⟩
def IU {c:ab6}{t:TT}(h:PT X c t):G2 X [c] t:=λċ s σ H Q I q=>wpAny_tests_one (h ċ s σ H Q I q)
end L2
namespace L2
theorem lZ {A:abd}{R:Result->aaE->Prop}{wA:ab6}{pos:Pos}{it b8:aao}(I:Nat->aaE->Prop)(turn:∀n s,I n s->aaT (aaX prog w) A (pyNext it) (λr ξ=>match r with
   |none=>R (.ok .next) ξ
   |some v=>aaT (aaX prog w) A (letOwnedTupleGo wA it v) (λ_ Æ=>aaT (aaX prog w) A (assign wA env v) (λ_ Ι=>
     aaT (aaX prog w) A (forIn wW true λc r=>if r=true then do let ok ←isTrue c env (adM c env);pure (ForInStep.yield ok) else pure (ForInStep.yield r)) (λok Ν=>
      if ok=true then aaT (aaX prog w) A (adM Μ env) (λx Ä=>
       aaT (aaX prog w) A (call (.builtin "list.append") [b8,x]) (λ_ Ó=>∃m,m<n/\I m Ó) (λ_ _=>False) Ä) (λ_ _=>False) Ν
      else ∃m,m<n/\I m Ν) (λ_ _=>False) Ι) (λ_ _=>False) Æ) (λ_ _=>False) ξ) (λ_ _=>False) s)(n:Nat)(h:I n s) :
  codeAny (aaX prog w) A (.compLoop (.ListComp Μ [⟨wA,iter,wW,0⟩] scope pos) 0 it b8 env) R s:=by
 refine codeAny_loop rfl I (λn s hI=>?_) n h;refine wpAny_noted ?_;rw[compTurn_list];refine aab (ae4 (aab (abr (turn n s hI) (λr ξ Ε=>?_) λ_ _ h'=>h'.elim)));cases r with
 |none=>exact aah Ε
 |some v=>
  refine aab (abr Ε (λ_ Æ h₁'=>?_) λ_ _ h'=>h'.elim);refine aab (abr h₁' (λ_ Ι Ψ=>aab (abr Ψ (λok Ν Å=>?_) λ_ _ h'=>h'.elim)) λ_ _ h'=>h'.elim);cases ok with
  |false=>exact aah ⟨rfl,Å⟩
  |true=>
   exact aab (aab (abr Å (λx Ä h₄=>aab (abr h₄ (λ_ Ó h₅=>aah (aah ⟨rfl,h₅⟩)) λ_ _ h'=>h'.elim)) λ_ _ h'=>h'.elim))
def Vf (J:It)(js:List (Option Nat))(g:t8->TG)(tt:t8->TT)(te:t8->TE)(σ:St)(H1:Hp)(P:List V->Hp->Prop):Prop:=
 ∀Y:t8,∃W:Nat->Nat->List V->Hp->Prop,(∃m,W 0 m [] H1)/\∀i m ys H2,W i m ys H2->
  (J.stop i H2/\P ys H2) \/
  (J.go i H2/\ys.length<aaf/\∃Nx:List V->Hp->Prop,(∀Rl H',Nx Rl H'->∃m',m'<m/\W (i+1) m' Rl H')/\∀x H3,J.yld i H2 x H3->g Y x (sel js σ) H3 λÉ H4=>tt Y É H4 λb H5=>
   if b=true then te Y É H5 λy H6=>Nx (ys++[y]) H6 else Nx ys H5)
def Xr (wi:TI)(js:List (Option Nat))(g:t8->TG)(tt:t8->TT)(te:t8->TE):TE:=λσ H Q=>wi σ H λJ H1=>
 Vf J js g tt te σ H1 λys H2=>∀p,H2 p=none->Q (.ref p) (dz H2 p (.lst ys))
def Vg (J:It)(g:TG)(tb:TS)(D:n9)(σ:St)(H1:Hp):Prop:=∃W:Nat->Nat->St->Hp->Prop,(∃m,W 0 m σ H1)/\∀i m σ H,W i m σ H->
 (J.stop i H/\D.nx σ H)\/(J.go i H/\∃N:St->Hp->Prop,(∀ζ H',N ζ H'->∃m',m'<m/\W (i+1) m' ζ H')/\∀x H',J.yld i H x H'->g x σ H' λΖ H2=>tb {D with nx:=N,ct:=N,bk:=D.nx} Ζ H2)
def Vh (wi:TI)(g:TG)(tb:TS):TS:=λD σ H=>wi σ H λJ H1=>Vg J g tb D σ H1
theorem E2 {g:TG}{tb:TS}{pos:Pos}(hp:afX (aaX X.prog X.w) X.A X.env X.xe)(hc:X.calm=true)(hi:PI X tg iter wi)(hg:PG X tg g)(hb:wY X body tb)(hs:∀x,ab3 iter X.env x=pure x:=by intro _;rfl):PS X (.For tg iter body [] pos) (Vh wi g tb):=RL hp hc hi hg hb hs
end L2
namespace L2
inductive D where
 |non|bl (b:Bool)|int (i:Int)|str (x:Str)|tup (xs:List D)|lst (xs:List D)
instance:Inhabited D:=⟨.non⟩
mutual
def gr (K:aam)(H:Hp):D->V->Prop
 | .non,v=>v=.non
 | .bl b,v=>v=.bl b
 | .int i,v=>v=.int i
 | .str x,v=>v=.str x
 | .tup ds,v=>∃a xs,v=.ref a/\iG K H a xs/\iK K H ds xs
 | .lst ds,v=>∃a xs,v=.ref a/\g_ K H a xs/\iK K H ds xs
def iK (K:aam)(H:Hp):List D->List V->Prop
 | [],xs=>xs=[]
 |d::ds,xs=>∃x r,xs=x::r/\gr K H d x/\iK K H ds r
end
mutual
noncomputable def k8:D->D->Bool
 | .non,.non=>true
 | .bl a,.bl b=>a==b
 | .bl a,.int b=>(if a then 1 else 0)==b
 | .int a,.bl b=>a==(if b then 1 else 0)
 | .int a,.int b=>a==b
 | .str a,.str b=>a==b
 | .tup xs,.tup ys=>lQ xs ys
 | .lst xs,.lst ys=>lQ xs ys
 |_,_=>false
noncomputable def lQ:List D->List D->Bool
 | [],[]=>true
 |x::xs,y::ys=>k8 x y&&lQ xs ys
 |_,_=>false
end
mutual
noncomputable def fj:D->Nat
 | .tup xs=>lP xs+1
 | .lst xs=>lP xs+1
 |_=>0
noncomputable def lP:List D->Nat
 | []=>0
 |x::xs=>max (fj x) (lP xs)
end
theorem iK.length {K:aam}{H:Hp}:∀{ds:List D} {xs:List V},iK K H ds xs->ds.length=xs.length
 | [],_,h=>by subst h;rfl
 |d::ds,_,h=>by
  obtain⟨x,r,rfl,_,q⟩:=h;rw[aaw,aaw,iK.length q]
theorem iK.get {K:aam}{H:Hp}:∀{ds:List D} {xs:List V} {i:Nat} {d:D} {x:V},iK K H ds xs->ds[i]? = some d->xs[i]? = some x->gr K H d x
 | [],_,_,_,_,_,e,_=>by simp at e
 |d::ds,_,i,d',x',h,e1,e2=>by
  obtain⟨x,r,rfl,p,q⟩:=h;cases i with
  |zero=>simp_all
  |succ i=>exact iK.get q (by simpa using e1) (by simpa using e2)
theorem mO:∀{ds:List D} {i:Nat} {d:D},ds[i]? = some d->fj d<=lP ds
 | [],_,_,e=>by simp at e
 |d::ds,i,d',e=>by
  cases i with
  |zero=>simp at e;subst e;exact Nat.le_max_left _ _
  |succ i=>exact abl (mO (by simpa using e)) (Nat.le_max_right _ _)
def oP (xs ys:List D)(j:Nat):Bool:=match xs[j]?,ys[j]? with
 |some a,some b=>k8 a b
 |_,_=>true
theorem ky:∀(xs ys:List D),((aax (min xs.length ys.length)).all (oP xs ys)&&xs.length==ys.length)=lQ xs ys
 | [],[]=>by simp[lQ]
 | [],_::_=>by simp[lQ]
 |_::_,[]=>by simp[lQ]
 |x::xs,y::ys=>by
  have ih:=ky xs ys;unfold lQ;rw[←ih,aaw,aaw,Nat.add_min_add_right,adg,ac3,List.all_map];have e0:oP (x::xs) (y::ys) 0=k8 x y:=rfl;have e1:(oP (x::xs) (y::ys)∘Nat.succ)=oP xs ys:=by funext j;simp[oP]
  rw[e0,e1,Bool.and_assoc];simp
theorem AG {xs ys:List D}(h:xs.length≠ys.length):lQ xs ys=false:=by
 rw[←ky,show (xs.length==ys.length)=false from by simpa using h,aeG]
mutual
theorem oQ:∀d:D,k8 d d=true
 | .non=>rfl
 | .bl b=>by unfold k8;simp
 | .int b=>by unfold k8;simp
 | .str b=>by unfold k8;simp
 | .tup xs=>by unfold k8;exact qt xs
 | .lst xs=>by unfold k8;exact qt xs
theorem qt:∀ds:List D,lQ ds ds=true
 | []=>rfl
 |d::ds=>by unfold lQ;rw[oQ d,qt ds];rfl
end
theorem Vi {ys:List V}(I:aG X ċ σ H s)(h:g_ X.K H a xs)(h':iG X.K H a ys):False:=by
 obtain⟨az,_,p,_⟩:=I.list h;obtain⟨tR,_,q,_⟩:=I.tuple h';exact absurd rfl (SeqAt.ne_of_list_tuple p.isList q)
theorem AH (I:aG X ċ σ H s):∀n d1 d2 x,fj d1<=n->gr X.K H d1 x->gr X.K H d2 x->k8 d1 d2=true:=by
 have lists:∀n,(∀d1 d2 x,fj d1<=n->gr X.K H d1 x->gr X.K H d2 x->k8 d1 d2=true)->∀(ds es:List D) (xs:List V),lP ds<=n->iK X.K H ds xs->iK X.K H es xs->lQ ds es=true:=by
  intro n ih ds
  induction ds with
  |nil=>
   intro es xs _ h1 h2;subst h1;cases es with
   |nil=>rfl
   |cons e es=>obtain⟨x,r,e',_⟩:=h2;cases e'
  |cons d ds ihd=>
   intro es xs hd h1 h2;obtain⟨x,r,rfl,p,q⟩:=h1;cases es with
   |nil=>cases h2
   |cons e es=>
    obtain⟨x',r',e',p',q'⟩:=h2;cases e';unfold lQ;rw[ih d e x (abl (Nat.le_max_left _ _) hd) p p',ihd es r (abl (Nat.le_max_right _ _) hd) q q'];rfl
 intro n
 induction n with
 |zero=>
  intro d1 d2 x hd h1 h2;have fl:∀d,gr X.K H d x->(∃a,x=.ref a)\/(d=.non/\x=.non)\/(∃b,d=.bl b/\x=.bl b)\/(∃b,d=.int b/\x=.int b)\/∃b,d=.str b/\x=.str b:=λd h=>by
   cases d with
   |non=>exact .inr (.inl ⟨rfl,h⟩)
   |bl b=>exact .inr (.inr (.inl ⟨b,rfl,h⟩))
   |int b=>exact .inr (.inr (.inr (.inl ⟨b,rfl,h⟩)))
   |str b=>exact .inr (.inr (.inr (.inr ⟨b,rfl,h⟩)))
   |tup ds=>obtain⟨a,_,e,_⟩:=h;exact .inl ⟨a,e⟩
   |lst ds=>obtain⟨a,_,e,_⟩:=h;exact .inl ⟨a,e⟩
  have nr:¬∃a,x=.ref a:=λθ=>by
   obtain⟨a,e⟩:=θ;subst e;cases d1 with
   |tup ds=>grind[fj]
   |lst ds=>grind[fj]
   |_=>cases h1
  have f1:=fl d1 h1;have f2:=fl d2 h2;rcases f1 with f1|⟨rfl,rfl⟩|⟨b,rfl,rfl⟩|⟨b,rfl,rfl⟩|⟨b,rfl,rfl⟩
  ·exact absurd f1 nr
  all_goals
   rcases f2 with f2|⟨rfl,f2⟩|⟨c,rfl,f2⟩|⟨c,rfl,f2⟩|⟨c,rfl,f2⟩
   ·exact absurd f2 nr
   all_goals first|(cases f2;exact oQ _)|cases f2
 |succ n ih=>
  intro d1 d2 x hd h1 h2;cases d1 with
  |tup ds=>
   obtain⟨a,xs,rfl,hs,hr⟩:=h1;cases d2 with
   |tup es=>
    obtain⟨a',Î,e,Ih,Φ⟩:=h2;cases e;have:=I.tuple_inj hs Ih;subst this;exact lists n ih ds es xs (by grind[fj]) hr Φ
   |lst es=>
    obtain⟨a',Î,e,Ih,Φ⟩:=h2;cases e;exact (Vi I Ih hs).elim
   |_=>cases h2
  |lst ds=>
   obtain⟨a,xs,rfl,hs,hr⟩:=h1;cases d2 with
   |lst es=>
    obtain⟨a',Î,e,Ih,Φ⟩:=h2;cases e;have:=I.list_inj hs Ih;subst this;exact lists n ih ds es xs (by grind[fj]) hr Φ
   |tup es=>
    obtain⟨a',Î,e,Ih,Φ⟩:=h2;cases e;exact (Vi I hs Ih).elim
   |_=>cases h2
  |_=>exact ih _ d2 x (by exact abU _) h1 h2
inductive R1 (K:aam)(H:Hp)(s:aaE):D->V->aao->Prop
 |non:R1 K H s .non .non .none
 |bl (b:Bool):R1 K H s (.bl b) (.bl b) (.bool b)
 |int (i:Int) (t:Tok):R1 K H s (.int i) (.int i) (.int i t)
 |str (x:Str) (t:Tok):R1 K H s (.str x) (.str x) (.str x t)
 |tup {ds:List D} {a:aaL} {xs:List V} {az:List aao} (hs:iG K H a xs) (hr:iK K H ds xs) (rv:bf xs az) (p:IsTup s.heap a az.toArray):R1 K H s (.tup ds) (.ref a) (.ref a)
 |lst {ds:List D} {a:aaL} {xs:List V} {az:List aao} (hs:g_ K H a xs) (hr:iK K H ds xs) (rv:bf xs az) (p:s.heap.IsList a az.toArray):R1 K H s (.lst ds) (.ref a) (.ref a)
theorem Ut (I:aG X ċ σ H s):∀{d:D} {x:V} {u:aao},gr X.K H d x->aZ x u->R1 X.K H s d x u:=by
 intro d x u h r;cases d<;>unfold gr at h
 case tup=>obtain⟨a,xs,rfl,hs,hr⟩:=h;cases r;obtain⟨az,rv,p,_⟩:=I.tuple hs;exact .tup hs hr rv p
 case lst=>obtain⟨a,xs,rfl,hs,hr⟩:=h;cases r;obtain⟨az,rv,p,_⟩:=I.list hs;exact .lst hs hr rv p.isList
 all_goals subst h
 case non=>cases r;exact .non
 case bl=>cases r;exact .bl _
 case int=>obtain⟨t,rfl⟩:=r;exact .int _ _
 case str=>obtain⟨t,rfl⟩:=r;exact .str _ _
section
variable {A:abd}{ds es:List D}{a1 a2:aaL}{Mz MA:List V}{i1 i2:List aao}
theorem xJ (v1:bf Mz i1)(v2:bf MA i2)(r1:iK X.K H ds Mz)(r2:iK X.K H es MA)(f:∀(j:Nat) (d e:D) (x y:V) (u v:aao),ds[j]? = some d->gr X.K H d x->gr X.K H e y->aZ x u->aZ y v->ade A s u v (k8 d e)) :
  ∀j (h1:j<i1.toArray.size) (h2:j<i2.toArray.size),ade A s i1.toArray[j] i2.toArray[j] (oP ds es j):=λj g1 g2=>by
 have l1:=v1.length;have l2:=v2.length;have k1:=r1.length;have k2:=r2.length;rw[aaz] at g1 g2;have q1:ds[j]? = some _:=aad (by lia);have q2:es[j]? = some _:=aad (by lia);have e1:Mz[j]? = some _:=aad (by lia);have e2:MA[j]? = some _:=aad (by lia);obtain⟨u1,z1,w1⟩:=v1.get e1;obtain⟨u2,z2,w2⟩:=v2.get e2;have y1:i1.toArray[j]=u1:=by obtain⟨_,q⟩:=aap.mp z1;simpa using q
 have y2:i2.toArray[j]=u2:=by obtain⟨_,q⟩:=aap.mp z2;simpa using q
 have:oP ds es j=k8 ds[j] es[j]:=by unfold oP;rw[q1,q2]
 rw[y1,y2,this];exact f j _ _ _ _ _ _ q1 (r1.get q1 e1) (r2.get q2 e2) w1 w2
variable (v1:bf Mz i1)(v2:bf MA i2)(r1:iK X.K H ds Mz)(r2:iK X.K H es MA)(hu:A.units<abW)(he:∀j (h1:j<i1.toArray.size) (h2:j<i2.toArray.size),ade A.in1 s i1.toArray[j] i2.toArray[j] (oP ds es j))
include v1 v2 r1 r2 hu he
theorem xK:i1.toArray.size=ds.length/\i2.toArray.size=es.length:=by rw[aaz,aaz,←v1.length,←v2.length,r1.length,r2.length];exact⟨rfl,rfl⟩
theorem IV (p1:IsTup s.heap a1 i1.toArray)(p2:IsTup s.heap a2 i2.toArray):SeqAt.RcAt A s (.ref a1) (.ref a2) (k8 (.tup ds) (.tup es)):=by
 have q:=SeqAt.RcAt.tuples p1 p2 hu he;rw[(xK v1 v2 r1 r2 hu he).1,(xK v1 v2 r1 r2 hu he).2,ky] at q;exact q
theorem IW (p1:IsTup s.heap a1 i1.toArray)(p2:IsTup s.heap a2 i2.toArray):af0 A s (.ref a1) (.ref a2) (!k8 (.tup ds) (.tup es)):=by
 have q:=SeqAt.RcNeAt.tuples p1 p2 hu he;rw[(xK v1 v2 r1 r2 hu he).1,(xK v1 v2 r1 r2 hu he).2,ky] at q;exact q
theorem IX (p1:s.heap.IsList a1 i1.toArray)(p2:s.heap.IsList a2 i2.toArray):SeqAt.RcAt A s (.ref a1) (.ref a2) (k8 (.lst ds) (.lst es)):=by
 obtain⟨l1,l2⟩:=xK v1 v2 r1 r2 hu he;unfold k8;by_cases hl:ds.length=es.length
 ·have q:=SeqAt.RcAt.lists p1 p2 (by lia) hu he;have z:=ky ds es;rw[hl,aeL,beq_self_eq_true,Bool.and_true] at z;rw[l1,hl,z] at q;exact q
 ·rw[AG hl];exact SeqAt.RcAt.lists_lengths p1 p2 (by rw[l1,l2];simpa using hl) hu
theorem IY (p1:s.heap.IsList a1 i1.toArray)(p2:s.heap.IsList a2 i2.toArray):af0 A s (.ref a1) (.ref a2) (!k8 (.lst ds) (.lst es)):=by
 obtain⟨l1,l2⟩:=xK v1 v2 r1 r2 hu he;unfold k8;by_cases hl:ds.length=es.length
 ·have q:=SeqAt.RcNeAt.lists p1 p2 (by lia) hu he;have z:=ky ds es;rw[hl,aeL,beq_self_eq_true,Bool.and_true] at z;rw[l1,hl,z] at q;exact q
 ·rw[AG hl];exact SeqAt.RcNeAt.lists_lengths p1 p2 (by rw[l1,l2];simpa using hl) hu
end
theorem CT (I:aG X ċ σ H s):∀(n:Nat) (d1 d2:D) (x y:V) (u v:aao) (A:abd),fj d1<=n->A.units+n<abW->gr X.K H d1 x->gr X.K H d2 y->aZ x u->aZ y v->ade A s u v (k8 d1 d2):=by
 intro n
 induction n using Nat.strongRecOn with|ind n ih=>
 intro d1 d2 x y u v A hd hu h1 h2 r1 r2;have eO:A.units<abW:=by lia
 have hi:∀{ds:List D} {j:Nat} {d e:D} {x y:V} {u v:aao},lP ds+1<=n->ds[j]? = some d->gr X.K H d x->gr X.K H e y->aZ x u->aZ y v->ade A.in1 s u v _:=λ{ds j d e x y u v} hn q a b c d'=>ih (n-1) (by lia) _ _ _ _ _ _ _ (by have:=mO q;lia) (by lia) a b c d';cases Ut I h1 r1<;>cases Ut I h2 r2
 ·exact afd _
 ·exact SeqAt.EqAt.none_bool _
 ·exact SeqAt.EqAt.none_int _ _
 ·exact SeqAt.EqAt.none_str _ _
 ·exact SeqAt.EqAt.none_tuple ‹_› eO
 ·exact SeqAt.EqAt.none_list ‹_› eO
 ·exact SeqAt.EqAt.bool_none _
 ·exact SeqAt.EqAt.bool_bool _ _
 ·exact SeqAt.EqAt.bool_int _ _ _
 ·exact SeqAt.EqAt.bool_str _ _ _
 ·exact SeqAt.EqAt.bool_tuple _ ‹_› eO
 ·exact SeqAt.EqAt.bool_list _ ‹_› eO
 ·exact SeqAt.EqAt.int_none _ _
 ·exact SeqAt.EqAt.int_bool _ _ _
 ·exact SeqAt.EqAt.int_int _ _ _ _
 ·exact SeqAt.EqAt.int_str _ _ _ _
 ·exact SeqAt.EqAt.int_tuple _ _ ‹_› eO
 ·exact SeqAt.EqAt.int_list _ _ ‹_› eO
 ·exact SeqAt.EqAt.str_none _ _
 ·exact SeqAt.EqAt.str_bool _ _ _
 ·exact SeqAt.EqAt.str_int _ _ _ _
 ·exact SeqAt.EqAt.str_str _ _ _ _
 ·exact SeqAt.EqAt.str_tuple _ _ ‹_› eO
 ·exact SeqAt.EqAt.str_list _ _ ‹_› eO
 ·exact SeqAt.EqAt.tuple_none ‹_› eO
 ·exact SeqAt.EqAt.tuple_bool _ ‹_› eO
 ·exact SeqAt.EqAt.tuple_int _ _ ‹_› eO
 ·exact SeqAt.EqAt.tuple_str _ _ ‹_› eO
 ·rename_i ds a1 Mz i1 WX Cp Cq p1 es a2 MA i2 wX xu Cr p2;by_cases CC:a1=a2
  ·subst CC;rw[AH I n _ _ _ hd h1 h2];exact afd _
  ·exact afx CC (IV Cq Cr Cp xu eO (xJ Cq Cr Cp xu λ_ _ _ _ _ _ _ q=>hi (by unfold fj at hd;lia) q) p1 p2)
 ·exact SeqAt.EqAt.tuple_list ‹_› ‹_› eO
 ·exact SeqAt.EqAt.list_none ‹_› eO
 ·exact SeqAt.EqAt.list_bool _ ‹_› eO
 ·exact SeqAt.EqAt.list_int _ _ ‹_› eO
 ·exact SeqAt.EqAt.list_str _ _ ‹_› eO
 ·exact SeqAt.EqAt.list_tuple ‹_› ‹_› eO
 ·rename_i ds a1 Mz i1 WX Cp Cq p1 es a2 MA i2 wX xu Cr p2;by_cases CC:a1=a2
  ·subst CC;rw[AH I n _ _ _ hd h1 h2];exact afd _
  ·exact afx CC (IX Cq Cr Cp xu eO (xJ Cq Cr Cp xu λ_ _ _ _ _ _ _ q=>hi (by unfold fj at hd;lia) q) p1 p2)
theorem R3 (I:aG X ċ σ H s)(n:Nat)(d1 d2:D)(x y:V)(u v:aao)(A:abd)(hd:fj d1<=n)(hu:A.units+n<abW)(h1:gr X.K H d1 x)(h2:gr X.K H d2 y)(r1:aZ x u)(r2:aZ y v):SeqAt.RcAt A s u v (k8 d1 d2):=by
 have eO:A.units<abW:=by lia
 have hi:∀{ds:List D} {j:Nat} {d e:D} {x y:V} {u v:aao},lP ds+1<=n->ds[j]? = some d->gr X.K H d x->gr X.K H e y->aZ x u->aZ y v->ade A.in1 s u v _:=λ{ds j d e x y u v} hn q a b c d'=>CT I (n-1) _ _ _ _ _ _ _ (by have:=mO q;lia) (by show A.units+1+(n-1)<abW;lia) a b c d';cases Ut I h1 r1<;>cases Ut I h2 r2
 ·exact SeqAt.RcAt.none_none
 ·exact SeqAt.RcAt.none_bool _
 ·exact SeqAt.RcAt.none_int _ _
 ·exact SeqAt.RcAt.none_str _ _
 ·exact SeqAt.RcAt.none_tuple ‹_› eO
 ·exact SeqAt.RcAt.none_list ‹_› eO
 ·exact SeqAt.RcAt.bool_none _
 ·exact SeqAt.RcAt.bool_bool _ _
 ·exact SeqAt.RcAt.bool_int _ _ _
 ·exact SeqAt.RcAt.bool_str _ _ _
 ·exact SeqAt.RcAt.bool_tuple _ ‹_› eO
 ·exact SeqAt.RcAt.bool_list _ ‹_› eO
 ·exact SeqAt.RcAt.int_none _ _
 ·exact SeqAt.RcAt.int_bool _ _ _
 ·exact SeqAt.RcAt.int_int _ _ _ _
 ·exact SeqAt.RcAt.int_str _ _ _ _
 ·exact SeqAt.RcAt.int_tuple _ _ ‹_› eO
 ·exact SeqAt.RcAt.int_list _ _ ‹_› eO
 ·exact SeqAt.RcAt.str_none _ _
 ·exact SeqAt.RcAt.str_bool _ _ _
 ·exact SeqAt.RcAt.str_int _ _ _ _
 ·exact SeqAt.RcAt.str_str _ _ _ _
 ·exact SeqAt.RcAt.str_tuple _ _ ‹_› eO
 ·exact SeqAt.RcAt.str_list _ _ ‹_› eO
 ·exact SeqAt.RcAt.tuple_none ‹_› eO
 ·exact SeqAt.RcAt.tuple_bool _ ‹_› eO
 ·exact SeqAt.RcAt.tuple_int _ _ ‹_› eO
 ·exact SeqAt.RcAt.tuple_str _ _ ‹_› eO
 ·rename_i ds a1 Mz i1 WX Cp Cq p1 es a2 MA i2 wX xu Cr p2;exact IV Cq Cr Cp xu eO (xJ Cq Cr Cp xu λ_ _ _ _ _ _ _ q=>hi (by unfold fj at hd;lia) q) p1 p2
 ·exact SeqAt.RcAt.tuple_list ‹_› ‹_› eO
 ·exact SeqAt.RcAt.list_none ‹_› eO
 ·exact SeqAt.RcAt.list_bool _ ‹_› eO
 ·exact SeqAt.RcAt.list_int _ _ ‹_› eO
 ·exact SeqAt.RcAt.list_str _ _ ‹_› eO
 ·exact SeqAt.RcAt.list_tuple ‹_› ‹_› eO
 ·rename_i ds a1 Mz i1 WX Cp Cq p1 es a2 MA i2 wX xu Cr p2;exact IX Cq Cr Cp xu eO (xJ Cq Cr Cp xu λ_ _ _ _ _ _ _ q=>hi (by unfold fj at hd;lia) q) p1 p2
theorem IZ (I:aG X ċ σ H s)(n:Nat)(d1 d2:D)(x y:V)(u v:aao)(A:abd)(hd:fj d1<=n)(hu:A.units+n<abW)(h1:gr X.K H d1 x)(h2:gr X.K H d2 y)(r1:aZ x u)(r2:aZ y v):af0 A s u v (!k8 d1 d2):=by
 have eO:A.units<abW:=by lia
 have hi:∀{ds:List D} {j:Nat} {d e:D} {x y:V} {u v:aao},lP ds+1<=n->ds[j]? = some d->gr X.K H d x->gr X.K H e y->aZ x u->aZ y v->ade _ s u v _:=λ{ds j d e x y u v} hn q a b c d'=>CT I (n-1) _ _ _ _ _ _ A.in1 (by have:=mO q;lia) (by show A.units+1+(n-1)<abW;lia) a b c d';cases Ut I h1 r1<;>cases Ut I h2 r2
 ·exact SeqAt.RcNeAt.none_none
 ·exact SeqAt.RcNeAt.none_bool _
 ·exact SeqAt.RcNeAt.none_int _ _
 ·exact SeqAt.RcNeAt.none_str _ _
 ·exact SeqAt.RcNeAt.none_tuple ‹_› eO
 ·exact SeqAt.RcNeAt.none_list ‹_› eO
 ·exact SeqAt.RcNeAt.bool_none _
 ·exact SeqAt.RcNeAt.bool_bool _ _
 ·exact SeqAt.RcNeAt.bool_int _ _ _
 ·exact SeqAt.RcNeAt.bool_str _ _ _
 ·exact SeqAt.RcNeAt.bool_tuple _ ‹_› eO
 ·exact SeqAt.RcNeAt.bool_list _ ‹_› eO
 ·exact SeqAt.RcNeAt.int_none _ _
 ·exact SeqAt.RcNeAt.int_bool _ _ _
 ·exact SeqAt.RcNeAt.int_int _ _ _ _
 ·exact SeqAt.RcNeAt.int_str _ _ _ _
 ·exact SeqAt.RcNeAt.int_tuple _ _ ‹_› eO
 ·exact SeqAt.RcNeAt.int_list _ _ ‹_› eO
 ·exact SeqAt.RcNeAt.str_none _ _
 ·exact SeqAt.RcNeAt.str_bool _ _ _
 ·exact SeqAt.RcNeAt.str_int _ _ _ _
 ·exact SeqAt.RcNeAt.str_str _ _ _ _
 ·exact SeqAt.RcNeAt.str_tuple _ _ ‹_› eO
 ·exact SeqAt.RcNeAt.str_list _ _ ‹_› eO
 ·exact SeqAt.RcNeAt.tuple_none ‹_› eO
 ·exact SeqAt.RcNeAt.tuple_bool _ ‹_› eO
 ·exact SeqAt.RcNeAt.tuple_int _ _ ‹_› eO
 ·exact SeqAt.RcNeAt.tuple_str _ _ ‹_› eO
 ·rename_i ds a1 Mz i1 WX Cp Cq p1 es a2 MA i2 wX xu Cr p2;exact IW Cq Cr Cp xu eO (xJ Cq Cr Cp xu λ_ _ _ _ _ _ _ q=>hi (by unfold fj at hd;lia) q) p1 p2
 ·exact SeqAt.RcNeAt.tuple_list ‹_› ‹_› eO
 ·exact SeqAt.RcNeAt.list_none ‹_› eO
 ·exact SeqAt.RcNeAt.list_bool _ ‹_› eO
 ·exact SeqAt.RcNeAt.list_int _ _ ‹_› eO
 ·exact SeqAt.RcNeAt.list_str _ _ ‹_› eO
 ·exact SeqAt.RcNeAt.list_tuple ‹_› ‹_› eO
 ·rename_i ds a1 Mz i1 WX Cp Cq p1 es a2 MA i2 wX xu Cr p2;exact IY Cq Cr Cp xu eO (xJ Cq Cr Cp xu λ_ _ _ _ _ _ _ q=>hi (by unfold fj at hd;lia) q) p1 p2
def R4 (K:aam)(f:Bool->Bool):R2:=λx y H Q=>∃d1 d2,gr K H d1 x/\gr K H d2 y/\fj d1<=30/\Q (.bl (f (k8 d1 d2))) H
theorem I0 (hu:X.A.units+64<abW):jT X (abM .Eq) (R4 X.K id):=by
 intro ċ s σ H x y v u Q I rx ry h;obtain⟨d1,d2,h1,h2,hd,q⟩:=h;exact R3 I 30 d1 d2 x y v u X.A hd (by lia) h1 h2 rx ry _ X.w X.xe _ ⟨.bl _,H,I,rfl,q⟩
theorem CU (hu:X.A.units+64<abW):jT X (abM .NotEq) (R4 X.K not):=by
 intro ċ s σ H x y v u Q I rx ry h;obtain⟨d1,d2,h1,h2,hd,q⟩:=h;exact IZ I 30 d1 d2 x y v u X.A hd (by lia) h1 h2 rx ry _ X.w X.xe _ ⟨.bl _,H,I,rfl,q⟩
end L2
variable {dx:L2.D}
namespace L2
def mP (n m:String):Bool:=(n==m)||(n=="bool"&&m=="int")
theorem Vj (K:aam){n m:String}(hn:n∈["NoneType","bool","int","str","list","tuple","dict"])(hm:m∈["bool","int","str","list","tuple","dict"]) :
  PySem.W.kitOne K (.type n) (.type m)=some (mP n m):=by
 simp only[aaA,ac6,or_false] at hn hm;rcases hn with rfl|rfl|rfl|rfl|rfl|rfl|rfl<;>rcases hm with rfl|rfl|rfl|rfl|rfl|rfl<;>kernel_rfl
inductive Cw (K:aam)(H:Hp):V->String->Prop where
 |non:Cw K H .non "NoneType"
 |bl (x:Bool):Cw K H (.bl x) "bool"
 |int (i:Int):Cw K H (.int i) "int"
 |str (x:Str):Cw K H (.str x) "str"
 |lst {a:aaL} {xs:List V} (e:H a=some (.lst xs)):Cw K H (.ref a) "list"
 |frz {a:aaL} {o:Obj} {xs:List V} (e:H a=some (.frz o (.lst xs))):Cw K H (.ref a) "list"
 |tup {a:aaL} {xs:List V} (e:H a=some (.tup xs)):Cw K H (.ref a) "tuple"
 |dK {a:aaL} {bw:List (Key×V)} (e:H a=some (.dK bw)):Cw K H (.ref a) "dict"
 |dT {a:aaL} {bw:List (List Key×V)} (e:H a=some (.dT bw)):Cw K H (.ref a) "dict"
theorem Cw.mem {x:V}{n:String}(h:Cw K H x n):n∈["NoneType","bool","int","str","list","tuple","dict"]:=by
 cases h<;>simp
theorem Cw.ty {x:V}{n:String}(h:Cw K H x n):qo K H x (.type n):=by
 cases h with
 |non=>exact .non
 |bl=>exact .bl _
 |int=>exact .int _
 |str=>exact .str _
 |lst e=>exact .lst e
 |frz e=>exact .frz e
 |tup e=>exact .tup e
 |dK e=>exact .dK e
 |dT e=>exact .dT e
theorem AI {m:String}(hm:m∈["bool","int","str","list","tuple","dict"]):eW X (.builtin "isinstance") (λxs H Q=>∃x n,xs=[x,.ty m]/\Cw X.K H x n/\Q (.bl (mP n m)) H):=by
 intro ċ s σ H xs us Q I r h;obtain⟨x,n,rfl,ty,q⟩:=h;obtain⟨u,w',rfl,rx,rt⟩:=ID r;cases rt;exact GV I rx ty.ty (Vj X.K ty.mem hm) λtk=>⟨.bl _,H,I.tok tk,rfl,q⟩
theorem rF:eW X (.type "range") (λxs H Q=>∃j,xs=[.int j]/\∀p,H p=none->Q (.ref p) (dz H p (.rng 0 j))):=by
 intro ċ s σ H xs us Q I r h;obtain⟨j,rfl,q⟩:=h;obtain⟨u,rfl,rx⟩:=i9 r;obtain⟨t,rfl⟩:=rx;refine call_range_1 ⟨.ref _,dz H _ _,I.laid (λb u e=>aak _ e) (aaq _) ?_,rfl,q _ (I.hok.fresh (aaq _))⟩;exact⟨_,_,_,aas _ rfl⟩
theorem ux {a:Int}{b8:Array aao}(h:ItemsOf (λi v=>∃t,v=Value.int (a+i*1) t) b8 n):bf ((aax n).map λi=>V.int (a+(i:Nat))) b8.toList:=by
 obtain⟨hs,hi⟩:=h;have gen:∀(l:List aao) (k:Nat),(∀(i:Nat) v,l[i]? = some v->∃t,v=Value.int (a+((k+i:Nat):Int)*1) t)->bf ((List.range' k l.length).map λi=>V.int (a+(i:Nat))) l:=by
  intro l
  induction l with
  |nil=>intro k _;exact .nil
  |cons v r ih=>
   intro k hk;refine .cons ?_ (ih (k+1) λi v e=>?_)
   ·obtain⟨t,e⟩:=hk 0 v rfl;exact⟨t,by rw[e];simp⟩
   ·obtain⟨t,e'⟩:=hk (i+1) v (by simpa using e);refine⟨t,?_⟩;rw[e',show k+(i+1)=k+1+i by lia]
 have q:=gen b8.toList 0 (λi v e=>by
  obtain⟨t,e'⟩:=hi i v (by simpa using e);exact⟨t,by rw[e',abw]⟩)
 grind[aaY,List.range_eq_range']
theorem w9 (hc:X.calm=true):eW X (.type "list") (λxs H Q=>∃p lo hi,xs=[.ref p]/\H p=some (.rng lo hi)/\(-(2 ^ 62)<=lo/\lo<2 ^ 62/\ -(2 ^ 62)<=hi/\hi<2 ^ 62)/\(hi-lo).toNat<=2 ^ 20/\
  ∀l,H l=none->Q (.ref l) (dz H l (.lst ((aax (hi-lo).toNat).map λi=>V.int (lo+(i:Nat)))))):=by
 intro ċ s σ H xs us Q I r h;obtain⟨p,lo,hi,rfl,hp,⟨h1,h2,h3,h4⟩,hz,q⟩:=h;obtain⟨u,rfl,rx⟩:=i9 r;cases rx;obtain⟨t,u,v,e⟩:=I.hok p _ hp;refine call_list_range (n:=(hi-lo).toNat) (I.ok.hd hc) (e) (small_one h1 h2 h3 h4) (by grind[rangeSize_one]) (by lia) λh' tk Uc c' hk Ud tT=>?_;have hl:((aax (hi-lo).toNat).map λi=>V.int (lo+(i:Nat))).length<=aaf:=by
  rw[aaa,aaJ,acq];lia
 refine⟨.ref _,_,I.laid hk (aaq _) (show cR X.prog X.w _ _ _ (.lst _) from ⟨hl,Uc.toList,c',ux tT,by simpa using Ud⟩),rfl,q _ (I.hok.fresh (aaq _))⟩
def I_ (i j:Int):Prop:=0<j/\j<18446744073709551616
theorem CV (h:n<18446744073709551616):n.log2<9000:=by
 by_cases h0:n=0
 ·simp[*]
 ·have:=(Nat.log2_lt h0 (k:=64)).mpr (by omega);lia
theorem fI:jT X (acQ .FloorDiv) (rI I_ λi j=>.int (i / j)):=Xo λi j _ _ _ _ _ hc q=>by
 refine floordiv_int (by have:=hc.1;(simp;lia)) ?_ (.inl (PyProof.noPylong_of_log2 (CV (by have:=hc.1;have:=hc.2;omega))));rw[Int.fdiv_eq_ediv_of_nonneg _ (by have:=hc.1;lia)];exact q
def yF:abk "list"=some (.type "list"):=by rfl
def bC:abk "tuple"=some (.type "tuple"):=by rfl
def Nu:abk "dict"=some (.type "dict"):=by rfl
def AJ:abk "range"=some (.type "range"):=by rfl
def gb:abk "len"=some (.builtin "len"):=by rfl
def yG:abk "max"=some (.builtin "max"):=by rfl
def yH:abk "min"=some (.builtin "min"):=by rfl
def Ja:abk "abs"=some (.builtin "abs"):=by rfl
def w_:abk "isinstance"=some (.builtin "isinstance"):=by rfl
def xM:abk "sorted"=some (.builtin "sorted"):=by rfl
def R5:abk "all"=some (.builtin "all"):=by rfl
def R6:abk "sum"=some (.builtin "sum"):=by rfl
end L2
namespace HT
open L2
section
variable {A:abd}
theorem getItem_tuple_whole {t:aaL}{items:Array aao}{vl vu:aao}{lo:Option Int}(ht:IsTup s.heap t items)(hs:s.heap.IsSliceOf sl vl vu .none)(pl:IsPart vl lo)(pu:IsPart vu hi)(hw:sIx items.size 0 lo=0/\sIx items.size items.size hi=items.size)(h:Q (.ref t) s):aaT (aaX prog w) A (aew (.ref t) (.ref sl)) Q E s:=by
 obtain⟨os,Υ,Ï,MV⟩:=id hs;have WS:s.TypeIs (.ref sl) "slice":=⟨os,Υ,Ï⟩;unfold aew
 try with_reducible refine abx ?_
 refine aab (afL ht.typeIs (by decide) ?_);refine aab (aa7 ht.typeIs abA
  (aa4 abA ht.typeIs afc ?_ (afw _ _)))
 show aaT _ _ (acG (.ref t) >>= _) _ _ s;refine aab (tupleItemsOf_ ht ?_);refine aab (ad5 WS ?_);refine aab (ku hs pl pu ?_);obtain⟨w1,w2⟩:=hw;rw[w1,w2];show aaT _ _ (if (((0:Nat):Int)==0&&(1:Int)==1&&(items.size-0)==items.size)=true then _ else _) _ _ s;rw[hZ (by simp)];have MT:aaT (aaX prog w) A.in1 (Builtin.Tuple.tupleIsExact (.ref t)) (λb s'=>b=true/\s'=s) E s:=by
  exact aab (ad5 ht.typeIs (aah ⟨by decide,rfl⟩))
 refine aab (abr MT (λb s' hb=>?_) λ_ _ e=>e);obtain⟨rfl,rfl⟩:=hb;exact aab (ae9 (aah ⟨_,rfl,aah h⟩))
end
end HT
namespace L2
theorem uy {p:aaL}(h:H p=none)(o:HO):aO H (dz H p o):=λb u q=>by rw[bB (cH q h)];exact q
section
open AutoSeq1 (wpAny_loadPart')
theorem nA {A:abd}{Q:List aao->aaE->Prop}{r:aaL}{a b c:Int}{t u v:Tok}(hh:A.handled=none)(hr:IsRange s.heap r a b c t u v)(EF:Builtin.Range.small a b c=true)(hn:aec a b c=n)(jS:n<=2 ^ 24)(hQ:∀h' tk (b8:Array aao),(∀b o',s.heap.get? b=some o'->h'.get? b=some o')->ItemsOf (λi v=>∃t,v=.int (a+i*c) t) b8 n->Q b8.toList {s with heap:=h',toks:=tk}) :
  aaT (aaX prog w) A (collect (.ref r)) Q E s:=by
 refine aab (wpAny_runValue (acD F.entry_proto_collect ?_));refine aab (abc ?_);refine aah ⟨plainId_quiet F.plain_list_iadd _,acD F.entry_list_iadd ?_⟩;have hS:(s.heap.push _).get? _=some {cls:=.type "list",data:=.seq #[] 0}:=aas _ rfl;refine abr (wpAny_extend_range (R:=λres s'=>res=.ok _/\aaT (aaX prog w) A (load s.heap.objs.size >>= λo=>match o.data with|.seq xs _=>pure xs.toList|_=>unsupported "internal:collect") Q E s')
  hh (aak _ hr) EF hn jS _ _ 0 hS λh' tk Uc c' hk Ud tT=>⟨rfl,?_⟩) (λfin s' h=>?_) λe s' h=>absurd h.1 (by simp)
 ·refine aab (wpAny_load Ud (aah ?_));exact hQ h' tk Uc (λb o' hb=>hk b o' (aaW (aaF hb)) (aak _ hb)) tT
 ·cases fin with
  |done f=>
   obtain⟨e,q⟩:=h;cases e;exact q
  |again c'=>exact⟨h.1,aeK h.2 λr Rf hr=>by obtain⟨rfl,q⟩:=hr;exact q⟩
theorem lR (l:aaL)(a b c:Int)(t u v:Tok)(n:Nat)(EF:Builtin.Range.small a b c=true)(hn:aec a b c=n)(jS:n<=2 ^ 20) :
  Meets (Builtin.«tuple.__new__» ⟨[.type "tuple",.ref l],[]⟩)
   (λA R s=>A.handled=none/\IsRange s.heap l a b c t u v/\∀(h':ac5) (tk:Nat) (b8:Array aao),(∀b o',s.heap.get? b=some o'->h'.get? b=some o')->ItemsOf (λi v=>∃t,v=.int (a+i*c) t) b8 n->
    R (.ok (.ret (.ref h'.objs.size))) {s with heap:=h'.push {cls:=.type "tuple",data:=.seq b8},toks:=tk}):=
 .of_wp λprog w A R s h=>by
  obtain⟨hh,ht,h⟩:=h;have aa6:=sub_tuple_self;have aac:=init_tuple_lookup;have hmh:=madeHere_tuple;wp_walk using ad5 hT,nA (A:=A.in1) hh ht EF hn (by lia);intro h' Y4 b8 hk tT;show aaT _ _ (Builtin.Tuple.tupleExact _ >>= λv=>ret v) _ _ _;refine aab (abc ?_ (by show b8.toList.toArray.size<=aaf;rw[acq];simp;have:=tT.1;lia));refine aah ⟨_,rfl,?_⟩;have e:b8.toList.toArray=b8:=by simp
  exact h h' Y4 b8 hk tT
theorem uz (hc:X.calm=true):eW X (.type "tuple") (λxs H Q=>∃p lo hi,xs=[.ref p]/\H p=some (.rng lo hi)/\(-(2 ^ 62)<=lo/\lo<2 ^ 62/\ -(2 ^ 62)<=hi/\hi<2 ^ 62)/\(hi-lo).toNat<=2 ^ 20/\
  ∀l,H l=none->Q (.ref l) (dz H l (.tup ((aax (hi-lo).toNat).map λi=>V.int (lo+(i:Nat)))))):=by
 intro ċ s σ H xs us Q I r h;obtain⟨p,lo,hi,rfl,hp,⟨h1,h2,h3,h4⟩,hz,q⟩:=h;obtain⟨u,rfl,rx⟩:=i9 r;cases rx;obtain⟨t,u,v,e⟩:=I.hok p _ hp;refine callType_new F.called_tuple (by decide) (F.typeCall_tuple_1 _) (F.newCall_tuple_1 _) (λobj=>F.args_object_init_2 obj _) F.entry_tuple_new
  (lR p lo hi 1 t u v _ (small_one h1 h2 h3 h4) (by rw[rangeSize_one];split<;>lia) hz) ⟨I.ok.hd hc,e,λh' tk b8 hk tT=>⟨⟨_,aas _ rfl,rfl⟩,?_⟩⟩
 have hl:((aax (hi-lo).toNat).map λi=>V.int (lo+(i:Nat))).length<=aaf:=by
  rw[aaa,aaJ,acq];lia
 have I1:aG X ċ σ H {s with heap:=h',toks:=tk}:=I.kept hk;refine⟨.ref _,_,I1.laid (λb o e=>aak _ e) (aaq _) (show cR X.prog X.w _ _ _ (.tup _) from ⟨hl,b8.toList,ux tT,by simp[IsTup.new],0,by simpa using aas h' rfl⟩),rfl,q _ (I1.hok.fresh (aaq _))⟩
end
end L2
namespace HT
open L2
end HT
namespace L2
def AK:V->List V->Hp->VK->Prop:=λx vs H Q=>∃l b xs zs,x=.ref l/\vs=[.ref b]/\H l=some (.lst xs)/\H b=some (.tup zs)/\xs.length+zs.length<=aaf/\Q .non (dz H l (.lst (xs++zs)))
theorem CW:Yf X "list.extend" AK:=by
 intro ċ s σ H x vs v us Q I rx rv h;obtain⟨l,b,xs,zs,rfl,rfl,hH,hB,hz,q⟩:=h;cases rx;obtain⟨u,rfl,ru⟩:=rv.one;cases ru;obtain⟨z,az,n,r,hl,e⟩:=I.lstM hH;obtain⟨z2,χ,r2,_,n2,e2⟩:=I.hok b _ hB;have Rj:=r2.length;have hsz:az.toArray.size+χ.toArray.size<=aaf:=by simp_all
 have MB:¬(!az.toArray.isEmpty&&ad6 (az.toArray.size+χ.toArray.size))=true:=by
  rw[uv hsz,aeG];exact aaB
 refine adb F.slot_list_extend ⟨_,e,rfl⟩ F.entry_list_extend (F.args_list_extend_2 _ _)
  (AutoSeq1.list_extend_list_tuple_0 l _ n b _ n2 MB (by simp_all) (by lia)) ⟨e,e2,?_⟩
 refine⟨.non,_,I.lset hH e (by simp) (r.append r2) ?_,rfl,q⟩;rw[aay];omega
theorem yI:eW X (.builtin "sorted") (λxs H Q=>∃(p:aaL) (ns:List Int),xs=[.ref p]/\(g_ X.K H p (ns.map V.int)\/iG X.K H p (ns.map V.int))/\ns.length<64/\
  ∀(l:aaL) (Ad:List Int),H l=none->Ad.Perm ns->Ad.Pairwise (·<=·)->Q (.ref l) (dz H l (.lst (Ad.map V.int)))):=by
 intro ċ s σ H xs us Q I r h;obtain⟨p,ns,rfl,hq,h64,q⟩:=h;obtain⟨u,rfl,rx⟩:=i9 r;cases rx;have Pr:∃(T:String) (o:Obj) (az:List aao) (n:Nat),(T="list"\/T="tuple")/\s.heap.get? p=some o/\o.cls=.type T/\o.data=.seq az.toArray n/\aeg az ns:=by
  rcases hq with hq|hq
  ·obtain⟨az,rv,pl,hz⟩:=I.list hq;obtain⟨o,e,c,n,d⟩:=pl.isList;exact⟨"list",o,az,n,.inl rfl,e,c,d,f9 rv⟩
  ·obtain⟨az,rv,pl,hz⟩:=I.tuple hq;obtain⟨o,e,c,n,d⟩:=pl;exact⟨"tuple",o,az,n,.inr rfl,e,c,d,f9 rv⟩
 obtain⟨T,o,az,n,hT,ho,hc,hd,hI⟩:=Pr;have jS:=hI.length;refine afE kind_sorted plain_sorted entry_sorted (args_sorted1 _) ?_;refine aab (aah ?_);refine aab (afN p hT ho hc hd (λh1 k1=>?_) (by rw[aaz,acq];lia));refine aab (wpAny_newList ?_);have Ue:(h1.push _).get? _=some (seqObj "list" az.toArray 0):=aas _ rfl;have Ug:=by simpa using Ue
 refine aab (abx (aa4 slot_list_sort ⟨_,Ug,rfl⟩ entry_list_sort (list_sort_tree Ug hI (by simp[*]) λout Ad a1 a2 a3=>⟨_,rfl,?_⟩) (args_list_sort _)));refine aah ⟨_,rfl,?_⟩;obtain⟨e,he⟩:=sortedHeap_at Ug;have keep:∀b o,h1.get? b=some o->(sortedHeap (h1.push {cls:=.type "list",data:=.seq (az.toArray.toList).toArray}) _ az out).get? b=some o:=λb o e=>by
  have hb:=aaF e;rw[sortedHeap_old (aaW hb) (by rw[ab7];exact acT hb)];exact aak _ e
 have I1:=I.kept (t':=s.toks) k1;have Rj:(Ad.map V.int).length<=aaf:=by rw[aaa,a2.length_eq,acq];lia
 exact⟨.ref _,_,I1.laid keep (aaq _) (show cR X.prog X.w _ _ _ (.lst _) from ⟨Rj,out.toList,e,qp a1,by simpa using he⟩),rfl,q _ Ad (I1.hok.fresh (aaq _)) a2 a3⟩
theorem G3 {bs:List Bool}{us:List aao}(r:bf (bs.map V.bl) us){v:aao}(h:us[i]? = some v):v=.bool (bs.getD i true):=by
 have hl:=r.length;rw[aaa] at hl;obtain⟨hi,_⟩:=aap.mp h;have e:(bs.map V.bl)[i]? = some (V.bl (bs.getD i true)):=by
  simp[*]
 obtain⟨u,hu,ru⟩:=r.get e;rw[h] at hu;cases hu;exact ru
theorem G4 (bs:List Bool):((aax bs.length).all λi=>bs.getD i true)=bs.all id:=by
 induction bs with
 |nil=>rfl
 |cons b bs ih=>
  rw[aaw,adg,ac3,List.all_map];congr 1
theorem G5 (hc:X.calm=true):eW X (.builtin "all") (λxs H Q=>∃(p:aaL) (bs:List Bool),xs=[.ref p]/\g_ X.K H p (bs.map V.bl)/\Q (.bl (bs.all id)) H):=by
 intro ċ s σ H xs us Q I r h;obtain⟨p,bs,rfl,hq,q⟩:=h;obtain⟨u,rfl,rx⟩:=i9 r;cases rx;obtain⟨az,rv,pl,hz⟩:=I.list hq;have hl:=pl.isList;have xv:p<s.heap.objs.size:=by obtain⟨_,e,_⟩:=hl;exact aaF e
 refine call_all_walk (aeu hl ?_);refine⟨s.heap.objs.size,_,_,_,_,_,λi=>bs.getD i true,rfl,Walks.list (A:=X.A.in1) (I.ok.hd hc) _ p (aaW xv) _,⟨⟨_,aas _ rfl,rfl,rfl⟩,hl.push _⟩,?_,λh' tk hk=>?_⟩
 ·intro i v s' Q' E' hP hQ';have e:=G3 rv (by simpa using hP);subst e;exact adE hQ'
 ·have e:(aax az.toArray.size).all (λi=>bs.getD i true)=bs.all id:=by
   rw[aaz,←rv.length,aaa];exact G4 bs
  rw[e];refine⟨.bl _,H,I.kept λb o e=>hk b o (λhm=>?_) (aak _ e),rfl,q⟩;rcases aaA.mp hm with e1|hm
  ·exact absurd (e1▸aaF e) (abC _)
  ·cases hm
def Jb (K:aam):V->Option Int->Option Int->Hp->VK->Prop:=λx lo hi H Q=>∃a xs,x=.ref a/\H a=some (.tup xs)/\∀r H',aO H H'->H' r=some (.tup (yC xs lo hi))->Q (.ref r) H'
theorem Nv:IG X (Jb X.K):=by
 have base:IG X _:=RT;intro ċ s σ H x v vl vu lo hi sl Q I rx hs pl pu h;obtain⟨a,xs,rfl,MS,q⟩:=h;have hx:iG X.K H a xs:=iG.of MS;by_cases hw:HT.sIx xs.length 0 lo=0/\HT.sIx xs.length xs.length hi=xs.length
 ·cases rx;obtain⟨az,r,ht,hz⟩:=I.tuple hx;have hl:az.toArray.size=xs.length:=by rw[aaz,r.length]
  refine⟨"tuple",_,PyProof.Rows.slot_tuple_getitem.lookup,ht.typeIs,HT.getItem_tuple_whole ht hs pl pu (by rw[hl];exact hw) ⟨.ref a,H,I,rfl,q a H (aO.refl _) ?_⟩⟩;have e:yC xs lo hi=xs:=by grind[yC]
  rw[e];exact MS
 ·exact base ċ s σ H _ v vl vu lo hi sl Q I rx hs pl pu ⟨a,xs,rfl,hx,hw,λp hp=>q p _ (uy hp _) bD⟩
def Jc:R2:=λx y H Q=>∃a b xs ys,x=.ref a/\y=.ref b/\H a=some (.tup xs)/\H b=some (.tup ys)/\xs.length+ys.length<=aaf/\∀r H',aO H H'->H' r=some (.tup (xs++ys))->Q (.ref r) H'
theorem Jd:jT X (acQ .Add) Jc:=by
 intro ċ s σ H x y v u Q I rx ry h;obtain⟨a,b,xs,ys,rfl,rfl,Ie,Aq,hz,q⟩:=h;have ha:iG X.K H a xs:=iG.of Ie;have hb:iG X.K H b ys:=iG.of Aq;by_cases hx:xs=[]
 ·subst hx;cases rx;cases ry;obtain⟨az,r1,p1,_⟩:=I.tuple ha;obtain⟨χ,r2,p2,_⟩:=I.tuple hb;have e1:=(bf.nil_iff r1).mpr rfl;subst e1;obtain⟨⟨cls,dd,data,sl⟩,ho,hc,n,hd⟩:=id p1;obtain⟨⟨cls2,Ü,data2,UK⟩,Ê,à,n2,yx⟩:=id p2;subst hc hd à yx;exact concat_meets ⟨_,ho,rfl⟩ ⟨_,Ê,rfl⟩ noFill_tuple_add seq_tuple_add aen aef (ad4 _ _)
   (tuple_addW0 a b _ _ n n2 dd Ü sl UK (by simp)) ⟨ho,Ê,⟨.ref b,H,I,rfl,q b H (aO.refl _) (by simpa using Aq)⟩⟩
 ·refine Nj ċ s σ H _ _ v u Q I rx ry ⟨a,b,xs,ys,rfl,rfl,ha,hb,hx,hz,λe=>?_,λ_ p hp=>q p _ (uy hp _) bD⟩;subst e;exact q a H (aO.refl _) (by simpa using Ie)
end L2
namespace L2
structure Fn (P:adf)(w:ac2)(K:aam)(mg:Str->Option aao)(base:ac5)(x:Str)(k:Nat)(ps:List Str)(sp:Sp):Prop where
 ex:∃(f:aaL) (fd:ae2),mg x=some (.ref f)/\ada K (.ref f)=true/\xA K fd ps []/\ny P w K mg base AA k f fd ps sp
structure Df (K:aam)(mg:Str->Option aao)(x:Str)(st:adN):Prop where
 ex:∃(f:aaL) (fd:ae2),mg x=some (.ref f)/\MM K x x st f fd
section
variable {base:ac5}
theorem Df.fn (d:Df K mg x st)(S:aI N ps (ao st))(hb:∀(kV qk pm:aao) (an:Option aaL) (cY ct:aao) (us:List aao),us.length=ps.length->bindArgs (acb x x (gE st) (c_ st) (ao st) .none kV qk pm an cY ct) ⟨us,[]⟩=pure (ps.zip us))(len:∀vs H Q E,sp vs H Q E->vs.length=ps.length)(jJ:∀(f:aaL) (cY:aao) (A:abd) (Č:List Env) (s:aaE) (H:Hp) (vs:List V) (Q:VK) (E:XK),gD k (A.deeper (afv x (ao st) s.heap.objs.size f cY))->sp vs H Q E->
   ∃t,wY (sT AA P w K mg base N x (ao st) f cY A Č s H E).nox (c_ st) t/\t {nx:=λ_ H'=>Q .non H',rt:=Q} (aeV N vs) H):Fn P w K mg base x (k+1) ps sp:=by
 obtain⟨f,fd,m,F⟩:=d.ex;exact⟨f,fd,m,F.kp,F.binds hb,F.ok S len (jJ f)⟩
end
section
variable {p pos:Pos}{e:ab6}{es:List ab6}{t:TA}
theorem AL (F:Fn X.prog X.w X.K X.mg X.base x k ps sp)(hr:gD k X.A)(ha:PA X (e::es) t)(hg:Gl X x:=by rfl)(ED:(x==("__debug__":Str))=false:=by decide)
  (he:aaN (e::es) X.env=(false,adM e X.env)::aaN es X.env:=by rfl) (sO:(acy pos (aaN es X.env)).any (·.1)=false:=by rfl) :
  PE X (.Call (.Name x p) (e::es) [] pos) (PN sp [] E0 t):=by
 obtain⟨f,fd,hm,hk,hb,G⟩:=F.ex;exact Ng G hr hg hm hk hb .nil Vc ha ED he sO
end
theorem aO.seqT (e:aO H H')(h:iG K H a xs):iG K H' a xs:=by
 rcases h with (h|⟨o,h⟩)|h
 ·exact .inl (.inl (e _ _ h))
 ·exact .inl (.inr ⟨o,e _ _ h⟩)
 ·exact .inr h
mutual
theorem aO.rep {K:aam}{H H':Hp}(e:aO H H'):∀{d:D} {v:V},gr K H d v->gr K H' d v
 | .non,v,h=>by unfold gr at h ⊢;exact h
 | .bl b,v,h=>by unfold gr at h ⊢;exact h
 | .int b,v,h=>by unfold gr at h ⊢;exact h
 | .str b,v,h=>by unfold gr at h ⊢;exact h
 | .tup ds,v,h=>by
  unfold gr at h ⊢;obtain⟨a,xs,r,q,z⟩:=h;exact⟨a,xs,r,e.seqT q,aO.reps e z⟩
 | .lst ds,v,h=>by
  unfold gr at h ⊢;obtain⟨a,xs,r,q,z⟩:=h;exact⟨a,xs,r,e.seq q,aO.reps e z⟩
theorem aO.reps {K:aam}{H H':Hp}(e:aO H H'):∀{ds:List D} {vs:List V},iK K H ds vs->iK K H' ds vs
 | [],vs,h=>by grind[iK]
 |d::ds,vs,h=>by
  unfold iK at h ⊢;obtain⟨x,r,q,p,z⟩:=h;exact⟨x,r,q,aO.rep e p,aO.reps e z⟩
end
end L2
namespace L2
inductive U where
 |non|bl (b:Bool)|int (i:Int)|str (x:Str)|tup (xs:List U)|lst (xs:List U)|dct (ks vs:List U)|scr (xs:List U)|obj (fs:List Str) (xs:List U)
instance:Inhabited U:=⟨.non⟩
inductive R (α:Type) where
 |ok (a:α)|exc (c:String) (u:U)|stk
noncomputable def R.bind {α β:Type}:R α->(α->R β)->R β
 | .ok a,f=>f a
 | .exc c u,_=>.exc c u
 | .stk,_=>.stk
abbrev Ev:=List (Option U)
inductive SR where
 |nx (ρ:Ev)|rt (u:U) (ρ:Ev)|bk (ρ:Ev)|ct (ρ:Ev)|exc (c:String) (u:U)|stk
end L2
variable {us ks:List L2.U}{u ds u' ι:L2.U}{es:List (List L2.U×aaL×L2.V)}{ρ:L2.Ev}{sg:L2.U->L2.Ev->L2.R L2.Ev}{F:L2.U->L2.U}{x1 o5 o6 x0 x3 x4 x2 x5 x6:Option L2.U}
namespace L2
open Sem (wp)
mutual
noncomputable def xb:U->U->Bool
 | .non,.non=>true
 | .bl a,.bl b=>decide (a=b)
 | .int a,.int b=>decide (a=b)
 | .str a,.str b=>decide (a=b)
 | .tup a,.tup b=>oR a b
 | .lst a,.lst b=>oR a b
 | .dct a b,.dct c d=>oR a c&&oR b d
 | .scr a,.scr b=>oR a b
 | .obj a b,.obj c d=>decide (a=c)&&oR b d
 |_,_=>false
noncomputable def oR:List U->List U->Bool
 | [],[]=>true
 |x::xs,y::ys=>xb x y&&oR xs ys
 |_,_=>false
end
mutual
theorem Je:∀{a b:U},xb a b=true->a=b
 | .non,b,h=>by cases b<;>first|rfl|(unfold xb at h;cases h)
 | .bl a,b,h=>by cases b<;>unfold xb at h<;>first|(cases h;done)|lia
 | .int a,b,h=>by cases b<;>unfold xb at h<;>first|(cases h;done)|lia
 | .str a,b,h=>by cases b<;>unfold xb at h<;>first|(cases h;done)|lia
 | .tup a,b,h=>by cases b<;>unfold xb at h<;>first|(cases h;done)|rw[lh h]
 | .lst a,b,h=>by cases b<;>unfold xb at h<;>first|(cases h;done)|rw[lh h]
 | .scr a,b,h=>by cases b<;>unfold xb at h<;>first|(cases h;done)|rw[lh h]
 | .dct a c,b,h=>by
  cases b<;>unfold xb at h<;>first|(cases h;done)|skip
  rw[aaC] at h;rw[lh h.1,lh h.2]
 | .obj a c,b,h=>by
  cases b<;>unfold xb at h<;>first|(cases h;done)|skip
  rw[aaC] at h;rw[of_decide_eq_true h.1,lh h.2]
theorem lh:∀{a b:List U},oR a b=true->a=b
 | [],[],_=>rfl
 | [],_::_,h=>by unfold oR at h;cases h
 |_::_,[],h=>by unfold oR at h;cases h
 |x::xs,y::ys,h=>by
  unfold oR at h;rw[aaC] at h;rw[Je h.1,lh h.2]
end
mutual
theorem AM:∀(a:U),xb a a=true
 | .non=>rfl
 | .bl a=>by unfold xb;exact hG rfl
 | .int a=>by unfold xb;exact hG rfl
 | .str a=>by unfold xb;exact hG rfl
 | .tup a=>by unfold xb;exact iq a
 | .lst a=>by unfold xb;exact iq a
 | .scr a=>by unfold xb;exact iq a
 | .dct a b=>by unfold xb;rw[iq a,iq b];rfl
 | .obj a b=>by unfold xb;rw[iq b,hG rfl];rfl
theorem iq:∀(a:List U),oR a a=true
 | []=>by rfl
 |x::xs=>by unfold oR;rw[AM x,iq xs];rfl
end
noncomputable instance aaI:DecidableEq U:=λa b=>if h:xb a b=true then .isTrue (Je h) else .isFalse λe=>h (by rw[e];exact AM b)
mutual
def jV (h:ac5):U->aao->Prop
 | .int i,v=>∃t,v=.int i t
 | .tup us,v=>∃a items,v=.ref a/\h.IsTuple a items/\gc h us items.toList
 |_,_=>False
def gc (h:ac5):List U->List aao->Prop
 | [],vs=>vs=[]
 |u::us,vs=>∃v r,vs=v::r/\jV h u v/\gc h us r
end
mutual
noncomputable def hK:U->Int
 | .int i=>hashInt i
 | .tup us=>reduceHash (adR (Jf us))
 |_=>0
noncomputable def Jf:List U->List Int
 | []=>[]
 |u::us=>hK u::Jf us
end
mutual
noncomputable def Uu:U->Nat
 | .tup us=>sW us+1
 |_=>1
noncomputable def sW:List U->Nat
 | []=>0
 |u::us=>Uu u+sW us
end
mutual
noncomputable def Cy:U->Nat
 | .tup us=>AN us+1
 |_=>0
noncomputable def AN:List U->Nat
 | []=>0
 |u::us=>max (Cy u) (AN us)
end
theorem CY {x y:Array aao}(h1:h.IsTuple a x)(h2:h.IsTuple a y):x=y:=by
 obtain⟨o,e,_,n,d⟩:=h1;obtain⟨o',e',_,n',d'⟩:=h2;lia
mutual
theorem jV.inj {h:ac5}:∀{x y:U} {v:aao},jV h x v->jV h y v->x=y
 | .int i,y,v,h1,h2=>by
  unfold jV at h1;obtain⟨t,rfl⟩:=h1;cases y<;>unfold jV at h2<;>first|exact h2.elim|skip
  ·lia
  lia
 | .str i,y,v,h1,h2=>by unfold jV at h1;exact h1.elim
 | .tup us,y,v,h1,h2=>by
  unfold jV at h1;obtain⟨a,az,rfl,q,z⟩:=h1;cases y<;>unfold jV at h2<;>first|exact h2.elim|skip
  ·lia
  ·obtain⟨a',tR,e,q',z'⟩:=h2;cases e;have:=CY q q';subst this;rw[gc.inj z z']
 | .non,y,v,h1,h2=>by unfold jV at h1;exact h1.elim
 | .bl _,y,v,h1,h2=>by unfold jV at h1;exact h1.elim
 | .lst _,y,v,h1,h2=>by unfold jV at h1;exact h1.elim
 | .dct _ _,y,v,h1,h2=>by unfold jV at h1;exact h1.elim
 | .scr _,y,v,h1,h2=>by unfold jV at h1;exact h1.elim
 | .obj _ _,y,v,h1,h2=>by unfold jV at h1;exact h1.elim
theorem gc.inj {h:ac5}:∀{x y:List U} {vs:List aao},gc h x vs->gc h y vs->x=y
 | [],y,vs,h1,h2=>by
  unfold gc at h1;subst h1;cases y with
  |nil=>rfl
  |cons=>grind[gc]
 |u::us,y,vs,h1,h2=>by
  unfold gc at h1;obtain⟨v,r,rfl,p,q⟩:=h1;cases y with
  |nil=>grind[gc]
  |cons=>
   unfold gc at h2;obtain⟨v',r',e,p',q'⟩:=h2;cases e;rw[jV.inj p p',gc.inj q q']
end
mutual
theorem jV.keep {h h':ac5}(k:∀a az,h.IsTuple a az->h'.IsTuple a az):∀{x:U} {v:aao},jV h x v->jV h' x v
 | .int i,v,h1=>by unfold jV at h1 ⊢;exact h1
 | .str i,v,h1=>by unfold jV at h1;exact h1.elim
 | .tup us,v,h1=>by
  unfold jV at h1 ⊢;obtain⟨a,az,e,q,z⟩:=h1;exact⟨a,az,e,k a az q,gc.keep k z⟩
 | .non,v,h1=>by unfold jV at h1;exact h1.elim
 | .bl _,v,h1=>by unfold jV at h1;exact h1.elim
 | .lst _,v,h1=>by unfold jV at h1;exact h1.elim
 | .dct _ _,v,h1=>by unfold jV at h1;exact h1.elim
 | .scr _,v,h1=>by unfold jV at h1;exact h1.elim
 | .obj _ _,v,h1=>by unfold jV at h1;exact h1.elim
theorem gc.keep {h h':ac5}(k:∀a az,h.IsTuple a az->h'.IsTuple a az):∀{x:List U} {vs:List aao},gc h x vs->gc h' x vs
 | [],vs,h1=>by grind[gc]
 |u::us,vs,h1=>by
  unfold gc at h1 ⊢;obtain⟨v,r,e,p,q⟩:=h1;exact⟨v,r,e,jV.keep k p,gc.keep k q⟩
end
theorem gc.length {h:ac5}:∀{us:List U} {vs:List aao},gc h us vs->us.length=vs.length
 | [],vs,h1=>by subst h1;rfl
 |u::us,vs,h1=>by
  obtain⟨v,r,rfl,p,q⟩:=h1;rw[aaw,aaw,gc.length q]
theorem gc.get {h:ac5}:∀{us:List U} {vs:List aao} {i:Nat} {u:U} {v:aao},gc h us vs->us[i]? = some u->vs[i]? = some v->jV h u v
 | [],_,_,_,_,_,e,_=>by simp at e
 |w::us,_,i,u,v,h,e1,e2=>by
  obtain⟨x,r,rfl,p,q⟩:=h;cases i with
  |zero=>simp_all
  |succ i=>exact gc.get q (by simpa using e1) (by simpa using e2)
theorem oT:∀{us:List U} {i:Nat} {u:U},us[i]? = some u->Cy u<=AN us
 | [],_,_,e=>by simp at e
 |w::us,i,u,e=>by
  cases i with
  |zero=>simp at e;subst e;exact Nat.le_max_left _ _
  |succ i=>exact abl (oT (by simpa using e)) (Nat.le_max_right _ _)
theorem uA:∀(a b:List U),Jf (a++b)=Jf a++Jf b
 | [],b=>by rfl
 |x::a,b=>by rw[acI,Jf,uA a b];rfl
theorem rG:∀(a b:List U),sW (a++b)=sW a+sW b
 | [],b=>by rw[adq];show _=0+_;lia
 |x::a,b=>by rw[acI,sW,sW,rG a b];lia
theorem R7:∀(n:Nat) (u:U) (v:aao) (A:abd) (E:aao->aaE->Prop) (s:aaE) (Q:Int->aaE->Prop),Cy u<=n->A.units+n<abW->jV s.heap u v->Q (hK u) {s with toks:=s.toks+Uu u} ->
  aaT (aaX prog w) A (pyHash v) Q E s:=by
 intro n
 induction n with
 |zero=>
  intro u v A E s Q hd hu hk h;cases u<;>unfold jV at hk<;>first|exact hk.elim|skip
  ·obtain⟨t,rfl⟩:=hk;exact wpAny_pyHash_int h
  grind[Cy]
 |succ n ih=>
  intro u v A E s Q hd hu hk h;cases u<;>unfold jV at hk<;>first|exact hk.elim|skip
  ·obtain⟨t,rfl⟩:=hk;exact wpAny_pyHash_int h
  ·rename_i us;unfold Cy at hd;obtain⟨a,items,rfl,ht,hi⟩:=hk;have hT:s.TypeIs (.ref a) _:=let ⟨o,e,c,_⟩:=ht;⟨o,e,c⟩
   obtain⟨o,ho,_,nn,Í⟩:=ht
   first|refine aab (wpAny_cRoomFor_or (.inr (by lia)) ?_)|skip
   refine aab (ado hT F.slot_tuple_hash.lookup ?_);refine aab (ado hT F.slot_tuple_hash.lookup ?_);refine aab (wpAny_callSpecialIfBoundUnlessNone?_slot hT F.slot_tuple_hash (aa4 F.slot_tuple_hash hT F.entry_tuple_hash ?_ (F.args_tuple_hash_1 _)));show aaT _ _ (acG _ >>= _) _ _ s;refine aab (wpAny_tupleItemsOf ho Í ?_);refine aab ?_;rw[←afy];refine wpAny_forIn_list _
    (λrest (b:Array Int) s'=>∃done left,us=done++left/\gc _ left rest/\b.toList=Jf done/\s'={s with toks:=s.toks+sW done})
    _ ?_ ?_ _ _ ⟨[],us,rfl,hi,by rfl,by rfl⟩
   ·rintro x rest b s' ⟨done,left,rfl,hl,hb,rfl⟩;cases left with
    |nil=>cases hl
    |cons k ks'=>
     obtain⟨v',r',e,h1,Ð⟩:=hl;cases e;have Y5:Cy k<=n:=by
      have:=oT (us:=done++k::ks') (i:=done.length) (u:=k) (by simp);lia
     refine aab (ih k x _ E _ _ Y5 (by lia) h1 ?_);have e2:Jf (done++[k])=Jf done++[hK k]:=by rw[uA];rfl
     have e3:sW (done++[k])=sW done+Uu k:=by rw[rG];show _+(Uu k+sW [])=_;unfold sW;lia
     first
      |exact aah ⟨done++[k],ks',by simp,Ð,by simp[hb,e2],by simp[e3,Nat.add_assoc]⟩
      |exact aab _
   ·rintro b s' ⟨done,left,rfl,hl,hb,rfl⟩;cases left with
    |cons k ks'=>obtain⟨_,_,e,_⟩:=hl;cases e
    |nil=>
     rw[abG] at h;show aaT _ _ (retInt _) _ _ _;rw[hb];refine wpAny_ret_mkInt ?_;show aaT _ _ (if (decide _&&decide _)=true then _ else _) Q E _;unfold hK Uu reduceHash at h;by_cases hr:(decide (-(2:Int) ^ 63<=adR (Jf done))&&decide (adR (Jf done)<2 ^ 63))=true
     ·rw[hZ hr];rw[hZ hr] at h;exact aah (by simpa [Nat.add_assoc] using h)
     ·rw[hV hr];rw[hV hr] at h;exact aab (ae9 (aah (by simpa [Nat.add_assoc] using h)))
theorem Yh:∀(n:Nat) (x y:U) (u v:aao) (A:abd),Cy x<=n->A.units+n<abW->jV s.heap x u->jV s.heap y v->ade A s u v (decide (x=y)):=by
 intro n
 induction n with
 |zero=>
  intro x y u v A hd hu h1 h2;have eO:A.units<abW:=by lia
  cases x<;>(try (exact h1.elim))
  case int i=>
   obtain⟨t,rfl⟩:=h1;cases y<;>(try (exact h2.elim))
   case int j=>
    obtain⟨t',rfl⟩:=h2;have:=SeqAt.EqAt.int_int (A:=A) (s:=s) i t j t';have e:decide (U.int i=U.int j)=(i==j):=by rw[abo];simp
    rw[e];exact this
   case tup us=>
    obtain⟨a,az,rfl,ht,_⟩:=h2;exact SeqAt.EqAt.int_tuple i t ht eO
  grind[Cy]
 |succ n ih=>
  intro x y u v A hd hu h1 h2;have eO:A.units<abW:=by lia
  cases x<;>(try (exact h1.elim))
  case int i=>exact ih _ y u v A (by unfold Cy;lia) (by lia) h1 h2
  case tup us=>
   unfold Cy at hd;have WY:=h1;obtain⟨a,az,rfl,p1,z1⟩:=h1;cases y<;>(try (exact h2.elim))
   case int j=>
    obtain⟨t',rfl⟩:=h2;exact SeqAt.EqAt.tuple_int j t' p1 eO
   case tup ws=>
    have Uh:=h2;obtain⟨b,χ,rfl,p2,z2⟩:=h2;by_cases CC:a=b
    ·subst CC;rw[jV.inj WY Uh,hG rfl];exact afd _
    ·refine afx CC ?_;have l1:az.size=us.length:=by rw[z1.length,aaY]
     have l2:χ.size=ws.length:=by rw[z2.length,aaY]
     have he:∀j (g1:j<az.size) (g2:j<χ.size),ade A.in1 s _ _ (decide _):=λj g1 g2=>by
      have q1:us[j]? = some _:=aad (by lia);have q2:ws[j]? = some _:=aad (by lia);have y1:az.toList[j]? = some az[j]:=by simp
      have y2:χ.toList[j]? = some χ[j]:=by simp
      have e:decide (us[j]? = ws[j]?)=decide (us[j]=ws[j]):=by rw[q1,q2];simp
      rw[e];refine ih _ _ _ _ _ ?_ (by show A.units+1+n<abW;lia) (z1.get q1 y1) (z2.get q2 y2);have:=oT q1;lia
     have q:=SeqAt.RcAt.tuples p1 p2 eO he;rw[l1,l2] at q;have fin:((aax (min us.length ws.length)).all (λj=>decide (us[j]? = ws[j]?))&&us.length==ws.length)=decide (U.tup us=U.tup ws):=by
      rw[abo,aaC,aaK,decide_eq_true_eq];constructor
      ·rintro⟨ha,hl⟩;have hl:=by simpa using hl
       congr 1;refine acU λj=>?_;grind
      lia
     rw[←fin];exact q
theorem Nw:∀(n:Nat) (x:U) (v:aao) (A:abd) (E:aao->aaE->Prop) (s:aaE) (Q:Bool->aaE->Prop),Cy x<=n->jV s.heap x v->Q true s->aaT (aaX prog w) A (eqIsQuiet n v) Q E s:=by
 intro n
 induction n with
 |zero=>
  intro x v A E s Q hd hk h;cases x<;>unfold jV at hk<;>first|exact hk.elim|skip
  ·obtain⟨t,rfl⟩:=hk;exact aah h
  ·unfold Cy at hd;lia
 |succ n ih=>
  intro x v A E s Q hd hk h;cases x<;>unfold jV at hk<;>first|exact hk.elim|skip
  ·obtain⟨t,rfl⟩:=hk;exact aah h
  ·rename_i us;unfold Cy at hd;obtain⟨a,items,rfl,ht,hi⟩:=hk;have hT:s.TypeIs (.ref a) _:=let ⟨o,e,c,_⟩:=ht;⟨o,e,c⟩
   obtain⟨o,ho,_,nn,Í⟩:=ht;unfold eqIsQuiet;refine aab (ado hT F.slot_tuple_eq.lookup ?_);refine aab (ac7 hT isSubtype_tuple_tuple ?_);refine aab (wpAny_seqItems ho Í ?_);refine aab ?_;rw[←afy];refine wpAny_forIn_list _ (λrest r s'=>r.1=none/\s'=s/\∃done left,us=done++left/\gc _ left rest) _ ?_ ?_ _ _ ⟨rfl,rfl,[],us,rfl,hi⟩
   ·rintro v rest r s' ⟨hr,rfl,done,left,rfl,hl⟩;cases left with
    |nil=>cases hl
    |cons k ks'=>
     obtain⟨v',r',e,h1,Ð⟩:=hl;cases e;have Y5:Cy k<=n:=by
      have:=oT (us:=done++k::ks') (i:=done.length) (u:=k) (by simp);lia
     refine aab (ih k v A E _ _ Y5 h1 ?_);exact aah ⟨rfl,rfl,done++[k],ks',by simp,Ð⟩
   ·rintro⟨r1,r2⟩ s' ⟨hr,rfl,_⟩;subst hr;exact aah h
def TK (h:ac5)(us:List U)(a:aaL):Prop:=AN us<=6/\∃items,h.IsTuple a items/\gc h us items.toList
theorem TK.is (x:TK h us a):Cy (.tup us)<=7/\jV h (.tup us) (.ref a):=by
 obtain⟨l,az,t,z⟩:=x;exact⟨by unfold Cy;simp[*],by exact⟨a,az,rfl,t,z⟩⟩
theorem lj {x y:List U}:(U.tup x=U.tup y)↔x=y:=⟨λh=>by lia,λh=>by rw[h]⟩
def AO (prog:adf)(w:ac2):aek prog w (List U) where
 is:=TK
 hash:=λus=>hK (.tup us)
 draws:=λus=>Uu (.tup us)
 room:=λA=>A.units+20<abW
 inj:=λhx hy=>lj.mp (jV.inj hx.is.2 hy.is.2)
 keeps:=λ{h h' k a d o es ep} x ho hd hs=>by
  have kp:∀b az,h.IsTuple b az->h'.IsTuple b az:=λb az θ=>by
   obtain⟨o',e,c,n,z⟩:=θ;have Ao:b≠d:=by
    lia
   exact⟨o',(hs.2 b Ao).trans e,c,n,z⟩
  obtain⟨l,az,t,z⟩:=x;exact⟨l,az,kp _ _ t,z.keep kp⟩
 pyHash:=λ{A E s k a Q} hu hk h=>R7 7 (.tup k) (.ref a) A E s Q hk.is.1 (by lia) hk.is.2 h
 eqBool:=λ{A E s x y a b Q} hu hx hy h=>Yh 7 (.tup x) (.tup y) (.ref a) (.ref b) A hx.is.1 (by lia) hx.is.2 hy.is.2 prog w E Q (by
  simp[*])
 quiet:=λ{A E s k a Q} hk h=>Nw 8 (.tup k) (.ref a) A E s Q (abl hk.is.1 (by lia)) hk.is.2 h
def Uv (p:List U×aaL×V)(q:List U×aaL×aao):Prop:=p.1=q.1/\p.2.1=q.2.1/\aZ p.2.2 q.2.2
def Yi (e:List U×aaL×aao):aeM:=⟨hK (.tup e.1),.ref e.2.1,e.2.2⟩
def Vk (a:aaL)(ep:Nat)(es:List (List U×aaL×V))(h:ac5):Prop:=(a==acf)=false/\∃o ds,∃xs:List (List U×aaL×aao),h.get? a=some o/\o.ExactDict/\o.data=.dict ds ep/\afJ Uv es xs/\ds.toList=xs.map Yi
def DN (a:aaL)(ep:Nat)(es:List (List U×aaL×V)):HO:=.ext (Vk a ep es)
mutual
def KH (H:Hp):U->V->Prop
 | .int i,v=>v=.int i
 | .tup us,v=>∃b ys,v=.ref b/\H b=some (.tup ys)/\us.length<=aaf/\uB H us ys
 |_,_=>False
def uB (H:Hp):List U->List V->Prop
 | [],vs=>vs=[]
 |u::us,vs=>∃v r,vs=v::r/\KH H u v/\uB H us r
end
mutual
theorem KH.to {H H':Hp}(e:∀b ys,H b=some (.tup ys)->H' b=some (.tup ys)):∀{u:U} {v:V},KH H u v->KH H' u v
 | .int i,v,h=>by grind[KH]
 | .tup us,v,h=>by
  unfold KH at h ⊢;obtain⟨b,ys,r,q,l,z⟩:=h;exact⟨b,ys,r,e b ys q,l,uB.to e z⟩
 | .non,v,h=>by unfold KH at h;exact h.elim
 | .bl _,v,h=>by unfold KH at h;exact h.elim
 | .str _,v,h=>by unfold KH at h;exact h.elim
 | .lst _,v,h=>by unfold KH at h;exact h.elim
 | .dct _ _,v,h=>by unfold KH at h;exact h.elim
 | .scr _,v,h=>by unfold KH at h;exact h.elim
 | .obj _ _,v,h=>by unfold KH at h;exact h.elim
theorem uB.to {H H':Hp}(e:∀b ys,H b=some (.tup ys)->H' b=some (.tup ys)):∀{us:List U} {vs:List V},uB H us vs->uB H' us vs
 | [],vs,h=>by grind[uB]
 |u::us,vs,h=>by
  unfold uB at h ⊢;obtain⟨v,r,q,p,z⟩:=h;exact⟨v,r,q,KH.to e p,uB.to e z⟩
end
mutual
theorem KH.is (ok:lX P w H h):∀{u:U} {v:V} {x:aao},KH H u v->aZ v x->jV h u x
 | .int i,v,x,k,r=>by
  unfold KH at k;subst k;obtain⟨t,rfl⟩:=r;unfold jV;lia
 | .tup us,v,x,k,r=>by
  unfold KH at k;obtain⟨b,ys,rfl,q,_,z⟩:=k;cases r;obtain⟨_,az,rv,it,_⟩:=ok b _ q;unfold jV;exact⟨b,az.toArray,rfl,it,by simpa using uB.is ok z rv⟩
 | .non,v,x,k,r=>by unfold KH at k;exact k.elim
 | .bl _,v,x,k,r=>by unfold KH at k;exact k.elim
 | .str _,v,x,k,r=>by unfold KH at k;exact k.elim
 | .lst _,v,x,k,r=>by unfold KH at k;exact k.elim
 | .dct _ _,v,x,k,r=>by unfold KH at k;exact k.elim
 | .scr _,v,x,k,r=>by unfold KH at k;exact k.elim
 | .obj _ _,v,x,k,r=>by unfold KH at k;exact k.elim
theorem uB.is (ok:lX P w H h):∀{us:List U} {vs:List V} {xs:List aao},uB H us vs->bf vs xs->gc h us xs
 | [],vs,xs,k,r=>by
  unfold uB at k;subst k;cases r;rfl
 |u::us,vs,xs,k,r=>by
  unfold uB at k;obtain⟨v,vr,rfl,p,z⟩:=k;cases r with
  |cons r1 r2=>
   unfold gc;exact⟨_,_,rfl,KH.is ok p r1,uB.is ok z r2⟩
end
def wO (H:Hp)(us:List U)(b:aaL):Prop:=AN us<=6/\∃ys,H b=some (.tup ys)/\us.length<=aaf/\uB H us ys
theorem wO.tk (ok:lX P w H h)(k:wO H us b):TK h us b:=by
 obtain⟨l,ys,q,_,z⟩:=k;obtain⟨_,az,rv,it,_⟩:=ok b _ q;exact⟨l,az.toArray,it,by simpa using uB.is ok z rv⟩
theorem wO.to (e:∀b ys,H b=some (.tup ys)->H' b=some (.tup ys))(k:wO H us b):wO H' us b:=by
 obtain⟨l,ys,q,n,z⟩:=k;exact⟨l,ys,e b ys q,n,z.to e⟩
structure fT (H:Hp)(a:aaL)(es:List (List U×aaL×V)):Prop where
 ob:(∃ep,H a=some (DN a ep es))\/(es=[]/\H a=some (.dK []))
 nd:(es.map (·.1)).Nodup
 key:∀e∈es,wO H e.1 e.2.1
theorem uC {α β:Type}{R:α->β->Prop}:∀{xs:List α} {ys:List β} {y:β},afJ R xs ys->y∈ys->∃x∈xs,R x y
 |_,_,_,.nil,h=>by cases h
 |x::xs,y'::ys,y,.cons r t,h=>by
  rcases aaA.mp h with e|h
  ·subst e;exact⟨x,aae,r⟩
  ·obtain⟨x',m,q⟩:=uC t h;exact⟨x',aai _ m,q⟩
theorem uD:∀{es:List (List U×aaL×V)} {xs:List (List U×aaL×aao)},afJ Uv es xs->es.map (·.1)=xs.map (·.1)
 |_,_,.nil=>rfl
 |_::_,_::_,.cons r t=>by rw[aal,aal,uD t,r.1]
theorem fT.of (ok:lX P w H h)(d:fT H a es):∃xs,afJ Uv es xs/\h.DictOfH (AO P w) a xs:=by
 rcases d.ob with⟨ep,q⟩|⟨e,q⟩
 ·obtain⟨⟨_,o,ds,xs,h1,h2,h3,h4,h5⟩,_⟩:=ok a _ q;refine⟨xs,h4,o,ds,ep,h1,h2,h3,h5,λx hx=>?_,by rw[←uD h4];exact d.nd⟩;obtain⟨e,he,r⟩:=uC h4 hx;have:=(d.key e he).tk ok;rw[r.1,r.2.1] at this;exact this
 ·subst e;obtain⟨_,_,vs,rel,dd⟩:=ok a _ q;cases rel;obtain⟨o,ds,ep,h1,h2,h3,h4,h5,h6⟩:=dd;have e0:ds.toList=[]:=by
   generalize ds.toList=l at h5;cases h5;rfl
  exact⟨[],.nil,o,ds,ep,h1,h2,h3,by rw[e0];rfl,(λx hx=>by cases hx),ab1⟩
theorem fT.lo (ok:lX P w H h)(d:fT H a es):(a==acf)=false:=by
 rcases d.ob with⟨ep,q⟩|⟨e,q⟩
 ·obtain⟨⟨l,_⟩,_⟩:=ok a _ q;exact l
 ·obtain⟨_,l,_⟩:=ok a _ q;exact l
def iL (es:List (List U×aaL×V))(k:List U):Option V:=(es.find? λe=>decide (e.1=k)).map (·.2.2)
def j9 (es:List (List U×aaL×V))(k:List U)(b:aaL)(v:V):List (List U×aaL×V):=
 if (iL es k).isSome then es.map (λe=>if e.1=k then (e.1,e.2.1,v) else e) else es++[(k,b,v)]
theorem l5 (k:List U):∀{es:List (List U×aaL×V)} {xs:List (List U×aaL×aao)},afJ Uv es xs->nZ (iL es k) ((atKey xs k).map (·.2))
 |_,_,.nil=>trivial
 |e::es,x::xs,.cons r t=>by
  have ih:=l5 k t;unfold iL atKey at ih ⊢;rw[acV,acV];by_cases c:e.1=k
  ·have c':x.1=k:=by rw[←r.1];exact c
   rw[hG c,hG c'];exact r.2.2
  ·have c':¬x.1=k:=by rw[←r.1];exact c
   rw[hJ c,hJ c'];exact ih
theorem AQ (k:List U){u:aao}(rv:aZ v u){xs:List (List U×aaL×aao)}(p:afJ Uv es xs):afJ Uv (j9 es k b v) (storedH xs k b u):=by
 have e:=by
  have:=(l5 k p).isSome_eq;rw[aez] at this;exact this
 unfold j9 storedH;rw[e];split
 ·rename_i hh;clear hh e
  induction p with
  |nil=>exact .nil
  | @cons q x es xs r t ih=>
   refine .cons ?_ ih;unfold putAt;dsimp only;by_cases c:q.1=k
   ·have c':x.1=k:=by rw[←r.1];exact c
    rw[hZ c,hZ c'];exact⟨r.1,r.2.1,rv⟩
   ·have c':¬x.1=k:=by rw[←r.1];exact c
    rw[hV c,hV c'];exact r
 ·rename_i hh;clear hh e
  induction p with
  |nil=>exact .cons ⟨rfl,rfl,rv⟩ .nil
  |cons r t ih=>exact .cons r ih
section
variable {d:V}{r:aao}{k:List U}{A:abd}
theorem yJ (hu:A.units+64<abW):(AO X.prog X.w).room A.in1:=by show A.units+1+20<abW;lia
theorem G6 (hu:A.units+64<abW)(I:aG X ċ σ H s)(g:fT H a es)(kb:wO H k b)(e:iL es k=some v)(h:∀w' s',aG X ċ σ H s'->aZ v w'->Q w' s') :
  aaT (aaX X.prog X.w) A (aew (.ref a) (.ref b)) Q E s:=by
 obtain⟨xs,rel,dd⟩:=g.of I.hok;obtain⟨w',hw,Ct⟩:=nZ.some_of (by rw[←e];exact l5 k rel);obtain⟨p,hp,Ar⟩:=Option.map_eq_some_iff.mp hw;refine wpAny_getItem_heap (yJ hu) (kb.tk I.hok) dd hp ?_;rw[Ar];exact h w' _ (I.tok _) Ct
theorem Ny (hu:A.units+64<abW)(I:aG X ċ σ H s)(g:fT H a es)(kb:wO H k b)(h:∀s',aG X ċ σ H s'->Q (.bool (!(iL es k).isSome)) s') :
  aaT (aaX X.prog X.w) A (abM .NotIn (.ref b) (.ref a)) Q E s:=by
 obtain⟨xs,rel,dd⟩:=g.of I.hok;refine wpAny_notIn_heap (yJ hu) (kb.tk I.hok) (g.lo I.hok) dd ?_;have q:=(l5 k rel).isSome_eq;rw[aez] at q;rw[←q];exact h _ (I.tok _)
theorem R8 (hu:A.units+64<abW)(I:aG X ċ σ H s)(g:fT H a es)(kb:wO H k b)(rd:aZ d r)(h:∀w' s',aG X ċ σ H s'->aZ ((iL es k).getD d) w'->Q w' s') :
  aaT (aaX X.prog X.w) A (call (.builtin "dict.get") [.ref a,.ref b,r]) Q E s:=by
 obtain⟨xs,rel,dd⟩:=g.of I.hok;exact call_meetsIn adp dd.typeIs aep (aei _ _ _) (meetsH_dict_get_default _ a b (g.lo I.hok) r) ⟨yJ hu,k,xs,kb.tk I.hok,dd,h _ _ (I.tok _) ((l5 k rel).getD rd)⟩
theorem fT.typeIs (I:aG X ċ σ H s)(g:fT H a es):s.TypeIs (.ref a) "dict":=by
 obtain⟨xs,rel,dd⟩:=g.of I.hok;exact dd.typeIs
theorem fT.noDict (I:aG X ċ σ H s)(g:fT H a es):∀b,Value.ref a=.ref b->∃ob,s.heap.get? b=some ob/\ob.dict=none:=λb q=>by
 cases q;obtain⟨xs,rel,ob,_,_,h1,h2,_⟩:=g.of I.hok;exact⟨ob,h1,h2.2.1⟩
theorem fT.mut (g:fT H a es):Us (H a):=by
 rcases g.ob with⟨ep,q⟩|⟨_,q⟩<;>(rw[q];exact True.intro)
theorem G7 {Q:Unit->aaE->Prop}(hu:A.units+64<abW)(I:aG X ċ σ H s)(g:fT H a es)(kb:wO H k b)(hz:es.length<=aaf)(rv:aZ v r)(h:∀ep s',aG X ċ σ (dz H a (DN a ep (j9 es k b v))) s'->Q () s') :
  aaT (aaX X.prog X.w) A (setItem (.ref a) (.ref b) r) Q E s:=by
 obtain⟨xs,rel,dd⟩:=g.of I.hok;refine wpAny_setItem_heap (hsz:=by rw[←aea rel];exact hz) (yJ hu) (kb.tk I.hok) dd λh' Ri hs=>?_;obtain⟨q,ds,ep,hq,h2,h3,h4,_,h5⟩:=Ri;refine h ep _ ?_;refine t7 I g.mut hs ⟨q,hq⟩ ⟨⟨g.lo I.hok,q,ds,_,hq,h2,h3,AQ k rv rel,h4⟩,⟨q,hq⟩,λg1 g2 ⟨l,o,ds,xs,z1,z2⟩ kp=>⟨l,o,ds,xs,kp _ z1,z2⟩⟩
end
end L2
namespace L2
def kU:Key->U
 | .inl i=>.int i
 | .inr x=>.str x
def yK (H:Hp)(a:aaL)(ks:List U)(xs:List V):Prop:=
 (∃bw:List (Key×V),H a=some (.dK bw)/\ks=bw.map (λp=>kU p.1)/\xs=bw.map (·.2)) \/
 ∃es:List (List U×aaL×V),es≠[]/\fT H a es/\ks=es.map (λp=>.tup p.1)/\xs=es.map (·.2.2)
abbrev Vl:=yK
theorem yK.at (h:Vl H a ks xs):yK H a ks xs:=h
theorem fT.ne (h:fT H a es)(n:es≠[]):∃ep,H a=some (DN a ep es):=by
 rcases h.ob with q|⟨e,_⟩
 ·exact q
 lia
def Nz (K:aam)(H:Hp)(a:aaL)(xs:List V):Prop:=(∃o,H a=some (.frz o (.lst xs))) \/
  ∃(o:Obj) (az:Array aao) (n:Nat),K.lookup a=some o/\o.cls=.type "list"/\o.dict=none/\o.data=.seq az n/\az.size<=aaf/\bf xs az.toList
theorem Nz.sq (h:Nz K H a xs):g_ K H a xs:=by
 rcases h with⟨o,h⟩|h
 ·exact .inl (.inr ⟨o,h⟩)
 ·exact .inr h
theorem Nz.to (h:Nz K H a xs)(e:∀o y,H a=some (.frz o y)->H' a=some (.frz o y)):Nz K H' a xs:=by
 rcases h with⟨o,h⟩|h
 ·exact .inl ⟨o,e _ _ h⟩
 ·exact .inr h
structure CO (K:aam)(C:aaL)(fs:List Str):Prop where
 cl:Xp K C
 no:∀f∈fs,RP K C f
 nd:fs.Nodup
mutual
def Rp (K:aam)(H:Hp)(A:aaL->Prop):U->V->Prop
 | .non,v=>v=.non
 | .bl b,v=>v=.bl b
 | .int i,v=>v=.int i
 | .str x,v=>v=.str x
 | .tup us,v=>∃a xs,v=.ref a/\H a=some (.tup xs)/\us.length<=aaf/\aU K H A us xs
 | .lst us,v=>∃a xs,v=.ref a/\¬A a/\H a=some (.lst xs)/\us.length<=aaf/\aU K H A us xs
 | .dct ks us,v=>∃a xs,v=.ref a/\¬A a/\yK H a ks xs/\us.length<=aaf/\aU K H A us xs
 | .scr us,v=>∃a xs,v=.ref a/\Nz K H a xs/\us.length<=aaf/\aU K H A us xs
 | .obj fs us,v=>∃a C dx xs,v=.ref a/\H a=some (.ins C dx (fs.zip xs))/\CO K C fs/\us.length=fs.length/\aU K H A us xs
def aU (K:aam)(H:Hp)(A:aaL->Prop):List U->List V->Prop
 | [],xs=>xs=[]
 |u::us,xs=>∃x r,xs=x::r/\Rp K H A u x/\aU K H A us r
end
def nG (K:aam)(H:Hp)(A:aaL->Prop):U->aaL->Prop
 | .lst us,a=>∃xs,H a=some (.lst xs)/\us.length<=aaf/\aU K H A us xs
 | .dct ks us,a=>∃xs,Vl H a ks xs/\us.length<=aaf/\aU K H A us xs
 |_,_=>False
def Pk (K:aam)(H:Hp)(A:aaL->Prop):U->V->Prop
 | .non,v=>v=.non
 | .bl b,v=>v=.bl b
 | .int i,v=>v=.int i
 | .str x,v=>v=.str x
 | .tup us,v=>∃a xs,v=.ref a/\H a=some (.tup xs)/\us.length<=aaf/\aU K H A us xs
 | .lst us,v=>∃a xs,v=.ref a/\H a=some (.lst xs)/\us.length<=aaf/\aU K H A us xs
 | .dct ks us,v=>∃a xs,v=.ref a/\yK H a ks xs/\us.length<=aaf/\aU K H A us xs
 | .scr us,v=>∃a xs,v=.ref a/\Nz K H a xs/\us.length<=aaf/\aU K H A us xs
 | .obj fs us,v=>∃a C dx xs,v=.ref a/\H a=some (.ins C dx (fs.zip xs))/\CO K C fs/\us.length=fs.length/\aU K H A us xs
def Mu:Option HO->Prop
 |some (.lst _)=>True
 |some (.dK _)=>True
 |some (.dT _)=>True
 |some (.ext _)=>True
 |_=>False
theorem Mu.ex {o:Option HO}(h:Mu o):∃x,o=.some x:=by
 cases o with
 |none=>exact h.elim
 |some x=>lia
def fU (A:aaL->Prop)(H H':Hp):Prop:=∀b o,¬A b->H b=some o->H' b=some o
theorem fU.refl:fU A H H:=λ_ _ _ h=>h
theorem fU.trans (a:fU A H H1)(b:fU A H1 H2):fU A H H2:=λc o n h=>b c o n (a c o n h)
theorem fU.same (h:aO H H'):fU A H H':=λb o _ e=>h b o e
section
variable {A':aaL->Prop}
theorem yK.ex (h:yK H a ks xs):∃o,H a=some o:=by
 rcases h with⟨k,h,_⟩|⟨k,n,h,_⟩
 ·exact⟨_,h⟩
 ·obtain⟨ep,q⟩:=h.ne n;exact⟨_,q⟩
theorem yK.to (h:yK H a ks xs)(e:∀o,H a=some o->H' a=some o)(t:∀b ys,H b=some (.tup ys)->H' b=some (.tup ys)):yK H' a ks xs:=by
 rcases h with⟨k,h,z⟩|⟨k,n,h,z⟩
 ·exact .inl ⟨k,e _ h,z⟩
 ·exact .inr ⟨k,n,⟨h.ob.imp (fun⟨ep,q⟩=>⟨ep,e _ q⟩) (λq=>⟨q.1,e _ q.2⟩),h.nd,λy hy=>(h.key y hy).to t⟩,z⟩
mutual
theorem Rp.re (m:∀b,A b->Mu (H b))(e:fU A H H')(n:∀b,A' b->A b\/H b=none):∀{u:U} {v:V},Rp K H A u v->Rp K H' A' u v
 | .non,v,h=>by grind[Rp]
 | .bl b,v,h=>by grind[Rp]
 | .int b,v,h=>by grind[Rp]
 | .str b,v,h=>by grind[Rp]
 | .tup us,v,h=>by
  unfold Rp at h ⊢;obtain⟨a,xs,r,q,l,z⟩:=h;exact⟨a,xs,r,e a _ (λz=>by have:=m a z;rw[q] at this;exact this) q,l,aU.re m e n z⟩
 | .lst us,v,h=>by
  unfold Rp at h ⊢;obtain⟨a,xs,r,na,q,l,z⟩:=h;refine⟨a,xs,r,λy=>?_,e a _ na q,l,aU.re m e n z⟩;grind
 | .scr us,v,h=>by
  unfold Rp at h ⊢;obtain⟨a,xs,r,q,l,z⟩:=h;exact⟨a,xs,r,q.to λo y w=>e a _ (λz=>by have:=m a z;rw[w] at this;exact this) w,l,aU.re m e n z⟩
 | .obj fs us,v,h=>by
  unfold Rp at h ⊢;obtain⟨a,C,dx,xs,r,q,c,l,z⟩:=h;exact⟨a,C,dx,xs,r,e a _ (λz=>by have:=m a z;rw[q] at this;exact this) q,c,l,aU.re m e n z⟩
 | .dct ks us,v,h=>by
  unfold Rp at h ⊢;obtain⟨a,xs,r,na,q,l,z⟩:=h;refine⟨a,xs,r,λy=>?_,q.to (λo w=>e a o na w) (λb ys w=>e b _ (λy=>by have:=m b y;rw[w] at this;exact this) w),l,aU.re m e n z⟩;obtain⟨o,w⟩:=q.ex;grind
theorem aU.re (m:∀b,A b->Mu (H b))(e:fU A H H')(n:∀b,A' b->A b\/H b=none):∀{us:List U} {vs:List V},aU K H A us vs->aU K H' A' us vs
 | [],vs,h=>by grind[aU]
 |u::us,vs,h=>by
  unfold aU at h ⊢;obtain⟨x,r,q,p,z⟩:=h;exact⟨x,r,q,Rp.re m e n p,aU.re m e n z⟩
end
mutual
theorem Rp.mono (n:∀b,A' b->A b):∀{u:U} {v:V},Rp K H A u v->Rp K H A' u v
 | .non,v,h=>by unfold Rp at h ⊢;exact h
 | .bl b,v,h=>by unfold Rp at h ⊢;exact h
 | .int b,v,h=>by unfold Rp at h ⊢;exact h
 | .str b,v,h=>by unfold Rp at h ⊢;exact h
 | .tup us,v,h=>by
  unfold Rp at h ⊢;obtain⟨a,xs,r,q,l,z⟩:=h;exact⟨a,xs,r,q,l,aU.mono n z⟩
 | .lst us,v,h=>by
  unfold Rp at h ⊢;obtain⟨a,xs,r,na,q,l,z⟩:=h;exact⟨a,xs,r,λy=>na (n a y),q,l,aU.mono n z⟩
 | .scr us,v,h=>by
  unfold Rp at h ⊢;obtain⟨a,xs,r,q,l,z⟩:=h;exact⟨a,xs,r,q,l,aU.mono n z⟩
 | .obj fs us,v,h=>by
  unfold Rp at h ⊢;obtain⟨a,C,dx,xs,r,q,c,l,z⟩:=h;exact⟨a,C,dx,xs,r,q,c,l,aU.mono n z⟩
 | .dct ks us,v,h=>by
  unfold Rp at h ⊢;obtain⟨a,xs,r,na,q,l,z⟩:=h;exact⟨a,xs,r,λy=>na (n a y),q,l,aU.mono n z⟩
theorem aU.mono (n:∀b,A' b->A b):∀{us:List U} {vs:List V},aU K H A us vs->aU K H A' us vs
 | [],vs,h=>by unfold aU at h ⊢;exact h
 |u::us,vs,h=>by
  unfold aU at h ⊢;obtain⟨x,r,q,p,z⟩:=h;exact⟨x,r,q,Rp.mono n p,aU.mono n z⟩
end
mutual
theorem Rp.same (e:aO H H'):∀{u:U} {v:V},Rp K H A u v->Rp K H' A u v
 | .non,v,h=>by unfold Rp at h ⊢;exact h
 | .bl b,v,h=>by unfold Rp at h ⊢;exact h
 | .int b,v,h=>by unfold Rp at h ⊢;exact h
 | .str b,v,h=>by unfold Rp at h ⊢;exact h
 | .tup us,v,h=>by
  unfold Rp at h ⊢;obtain⟨a,xs,r,q,l,z⟩:=h;exact⟨a,xs,r,e a _ q,l,aU.same e z⟩
 | .lst us,v,h=>by
  unfold Rp at h ⊢;obtain⟨a,xs,r,na,q,l,z⟩:=h;exact⟨a,xs,r,na,e a _ q,l,aU.same e z⟩
 | .scr us,v,h=>by
  unfold Rp at h ⊢;obtain⟨a,xs,r,q,l,z⟩:=h;exact⟨a,xs,r,q.to λo y w=>e a _ w,l,aU.same e z⟩
 | .obj fs us,v,h=>by
  unfold Rp at h ⊢;obtain⟨a,C,dx,xs,r,q,c,l,z⟩:=h;exact⟨a,C,dx,xs,r,e a _ q,c,l,aU.same e z⟩
 | .dct ks us,v,h=>by
  unfold Rp at h ⊢;obtain⟨a,xs,r,na,q,l,z⟩:=h;exact⟨a,xs,r,na,q.to (λo w=>e a o w) (λb ys w=>e b _ w),l,aU.same e z⟩
theorem aU.same (e:aO H H'):∀{us:List U} {vs:List V},aU K H A us vs->aU K H' A us vs
 | [],vs,h=>by unfold aU at h ⊢;exact h
 |u::us,vs,h=>by
  unfold aU at h ⊢;obtain⟨x,r,q,p,z⟩:=h;exact⟨x,r,q,Rp.same e p,aU.same e z⟩
end
theorem aU.length:∀{us:List U} {vs:List V},aU K H A us vs->us.length=vs.length
 | [],_,h=>by subst h;rfl
 |u::us,_,h=>by
  obtain⟨x,r,rfl,_,q⟩:=h;rw[aaw,aaw,aU.length q]
theorem aU.get:∀{us:List U} {vs:List V} {i:Nat} {u:U},aU K H A us vs->us[i]? = some u->∃v,vs[i]? = some v/\Rp K H A u v
 | [],_,_,_,_,e=>by simp at e
 |w::us,_,i,u,h,e=>by
  obtain⟨x,r,rfl,p,q⟩:=h;cases i with
  |zero=>simp at e;subst e;exact⟨x,by simp,p⟩
  |succ i=>
   obtain⟨v,a,b⟩:=aU.get q (by simpa using e);exact⟨v,by simpa using a,b⟩
theorem aU.nil:aU K H A [] []:=by rfl
theorem aU.cons (h:Rp K H A u v)(t:aU K H A us vs):aU K H A (u::us) (v::vs):=by exact⟨v,vs,rfl,h,t⟩
theorem aU.append:∀{us ws:List U} {vs xs:List V},aU K H A us vs->aU K H A ws xs->aU K H A (us++ws) (vs++xs)
 | [],ws,vs,xs,h,t=>by subst h;exact t
 |u::us,ws,vs,xs,h,t=>by
  obtain⟨x,r,rfl,p,q⟩:=h;exact aU.cons p (aU.append q t)
theorem aU.take:∀{us:List U} {vs:List V} (n:Nat),aU K H A us vs->aU K H A (us.take n) (vs.take n)
 | [],vs,n,h=>by subst h;simp;rfl
 |u::us,vs,0,h=>by rfl
 |u::us,vs,n+1,h=>by
  obtain⟨x,r,rfl,p,q⟩:=h;exact aU.cons p (aU.take n q)
theorem aU.drop:∀{us:List U} {vs:List V} (n:Nat),aU K H A us vs->aU K H A (us.drop n) (vs.drop n)
 | [],vs,n,h=>by subst h;simp;rfl
 |u::us,vs,0,h=>h
 |u::us,vs,n+1,h=>by
  obtain⟨x,r,rfl,p,q⟩:=h;exact aU.drop n q
theorem aU.set:∀{us:List U} {vs:List V} (n:Nat) {u:U} {v:V},Rp K H A u v->aU K H A us vs->aU K H A (us.set n u) (vs.set n v)
 | [],vs,n,_,_,_,h=>by subst h;rfl
 |u::us,vs,0,_,_,p',h=>by
  obtain⟨x,r,rfl,p,q⟩:=h;exact aU.cons p' q
 |u::us,vs,n+1,_,_,p',h=>by
  obtain⟨x,r,rfl,p,q⟩:=h;exact aU.cons p (aU.set n p' q)
theorem Rp.pk (h:Rp K H A u v):Pk K H A u v:=by
 cases u<;>(unfold Pk)
 case lst us=>obtain⟨a,xs,r,na,q⟩:=h;exact⟨a,xs,r,q⟩
 case dct ks us=>obtain⟨a,xs,r,na,q⟩:=h;exact⟨a,xs,r,q⟩
 all_goals exact h
theorem Pk.same (e:aO H H')(h:Pk K H A u v):Pk K H' A u v:=by
 cases u<;>(unfold Pk at h ⊢)
 case tup us=>obtain⟨a,xs,r,q,l,z⟩:=h;exact⟨a,xs,r,e a _ q,l,z.same e⟩
 case lst us=>obtain⟨a,xs,r,q,l,z⟩:=h;exact⟨a,xs,r,e a _ q,l,z.same e⟩
 case scr us=>obtain⟨a,xs,r,q,l,z⟩:=h;exact⟨a,xs,r,q.to λo y w=>e a _ w,l,z.same e⟩
 case obj fs us=>obtain⟨a,C,dx,xs,r,q,c,l,z⟩:=h;exact⟨a,C,dx,xs,r,e a _ q,c,l,z.same e⟩
 case dct ks us=>obtain⟨a,xs,r,q,l,z⟩:=h;exact⟨a,xs,r,q.to (λo w=>e a o w) (λb ys w=>e b _ w),l,z.same e⟩
 all_goals exact h
theorem nG.pk (h:nG K H A u a):Pk K H A u (.ref a):=by
 cases u<;>(unfold Pk)
 case lst us=>obtain⟨xs,q,l,z⟩:=h;exact⟨a,xs,rfl,q,l,z⟩
 case dct ks us=>obtain⟨xs,q,l,z⟩:=h;exact⟨a,xs,rfl,q.at,l,z⟩
 all_goals exact h.elim
theorem nG.rp (h:nG K H A u a)(n:∀b,A' b->A b)(na:¬A' a):Rp K H A' u (.ref a):=by
 cases u<;>(unfold Rp)
 case lst us=>obtain⟨xs,q,l,z⟩:=h;exact⟨a,xs,rfl,na,q,l,z.mono n⟩
 case dct ks us=>obtain⟨xs,q,l,z⟩:=h;exact⟨a,xs,rfl,na,q.at,l,z.mono n⟩
 all_goals exact h.elim
theorem nG.re (m:∀b,A b->Mu (H b))(e:fU A H H')(n:∀b,A' b->A b\/H b=none)(ea:∀o,H a=some o->H' a=some o)(h:nG K H A u a):nG K H' A' u a:=by
 cases u<;>(unfold nG at h ⊢)
 case lst us=>obtain⟨xs,q,l,z⟩:=h;exact⟨xs,ea _ q,l,z.re m e n⟩
 case dct ks us=>obtain⟨xs,q,l,z⟩:=h;exact⟨xs,q.to ea (λb ys w=>e b _ (λy=>by have:=m b y;rw[w] at this;exact this) w),l,z.re m e n⟩
 all_goals exact h.elim
theorem nG.mu (h:nG K H A u a):Mu (H a):=by
 cases u<;>(unfold nG at h)
 case lst us=>obtain⟨xs,q,_⟩:=h;rw[q];trivial
 case dct ks us=>
  obtain⟨xs,q,_⟩:=h;rcases q with⟨k,q,_⟩|⟨k,n,q,_⟩
  ·rw[q];trivial
  ·obtain⟨ep,q⟩:=q.ne n;rw[q];trivial
 all_goals exact h.elim
end
structure Pkg where
 A0:aaL->Prop
 B:Hp
 a0:aaL
structure Gm where
 own:List Bool
 io:Bool
 W:Hp->Prop
def Gm.is (G:Gm)(i:Nat):Bool:=G.own.getD i false
structure dh (K:aam)(G:Gm)(Z:Pkg)(A:aaL->Prop)(ρ:Ev)(σ:St)(H:Hp):Prop where
 slot:∀i u,ρ[i]? = some (some u)->∃v,σ[i]? = some (some v)/\if G.is i=true then (∃a,v=.ref a/\A a/\Z.B a=none/\(¬Z.A0 a\/(G.io=true/\i=0))/\nG K H A u a) else Rp K H A u v
 dis:∀i j u w a,G.is i=true->G.is j=true->i≠j->ρ[i]? = some (some u)->ρ[j]? = some (some w)->σ[i]? = some (some (.ref a))->σ[j]? = some (some (.ref a))->False
 mu:∀a,A a->Mu (H a)
 sup:∀a,Z.A0 a->A a
 out:∀a,A a->Z.A0 a\/Z.B a=none
 bas:∀a o,Z.B a=some o->H a=some o
 io0:G.io=true->σ[0]? = some (some (.ref Z.a0))/\G.is 0=true
 len:ρ.length=σ.length
section
variable {A':aaL->Prop}{G:Gm}{Z:Pkg}{ε:Ev}
theorem dh.same (r:dh K G Z A ρ σ H)(e:aO H H'):dh K G Z A ρ σ H' where
 slot:=λi u h=>by
  obtain⟨v,h1,h2⟩:=r.slot i u h;refine⟨v,h1,?_⟩;by_cases c:G.is i=true
  ·rw[hZ c] at h2 ⊢;obtain⟨a,e1,e2,e3,e4,e5⟩:=h2;exact⟨a,e1,e2,e3,e4,e5.re r.mu (fU.same e) (λb z=>.inl z) λo w=>e a o w⟩
  ·rw[hV c] at h2 ⊢;exact h2.same e
 dis:=r.dis
 mu:=λa h=>by
  have m:=r.mu a h;obtain⟨o,q⟩:=m.ex;rw[e a o q,←q];exact m
 sup:=r.sup
 out:=r.out
 bas:=λa o h=>e a o (r.bas a o h)
 io0:=r.io0
 len:=r.len
theorem dh.add (r:dh K G Z A ρ σ H)(e:aO H H')(n:H a=none)(m:Mu (H' a)):dh K G Z (λb=>A b\/b=a) ρ σ H' where
 slot:=λi u h=>by
  have q:∀b,(A b\/b=a)->A b\/H b=none:=λb z=>by
   lia
  obtain⟨v,h1,h2⟩:=r.slot i u h;refine⟨v,h1,?_⟩;by_cases c:G.is i=true
  ·rw[hZ c] at h2 ⊢;obtain⟨b,e1,e2,e3,e4,e5⟩:=h2;exact⟨b,e1,.inl e2,e3,e4,e5.re r.mu (fU.same e) q λo w=>e b o w⟩
  ·rw[hV c] at h2 ⊢;exact h2.re r.mu (fU.same e) q
 dis:=r.dis
 mu:=λb h=>by
  rcases h with h|h
  ·exact (r.same e).mu b h
  lia
 sup:=λb h=>.inl (r.sup b h)
 out:=λb h=>by
  rcases h with h|h
  ·exact r.out b h
  ·subst h;refine .inr ?_;cases q:Z.B b with
   |none=>rfl
   |some o=>rw[r.bas b o q] at n;cases n
 bas:=λa o h=>e a o (r.bas a o h)
 io0:=r.io0
 len:=r.len
theorem dh.notA (r:dh K G Z A ρ σ H)(n:H a=none):¬A a:=λz=>by
 have:=r.mu a z;rw[n] at this;exact this
theorem dh.notB (r:dh K G Z A ρ σ H)(n:H a=none):Z.B a=none:=by
 cases q:Z.B a with
 |none=>rfl
 |some o=>rw[r.bas a o q] at n;cases n
theorem dh.val (r:dh K G Z A ρ σ H)(c:G.is i=false)(h:ρ[i]? = some (some u)):∃v,σ[i]? = some (some v)/\Rp K H A u v:=by
 obtain⟨v,h1,h2⟩:=r.slot i u h;rw[hV (by rw[c];exact aaB)] at h2;exact⟨v,h1,h2⟩
theorem dh.own (r:dh K G Z A ρ σ H)(c:G.is i=true)(h:ρ[i]? = some (some u)):∃a,σ[i]? = some (some (.ref a))/\A a/\Z.B a=none/\(¬Z.A0 a\/(G.io=true/\i=0))/\nG K H A u a:=by
 obtain⟨v,h1,h2⟩:=r.slot i u h;rw[hZ c] at h2;obtain⟨a,rfl,z⟩:=h2;exact⟨a,h1,z⟩
end
end L2
variable {Z:L2.Pkg}{G:L2.Gm}
namespace L2
inductive Md where
 |S|O|P
 deriving DecidableEq
def yL (K:aam)(G:Gm)(Z:Pkg)(m:Md)(A:aaL->Prop)(ρ:Ev)(σ:St)(H:Hp)(u:U)(v:V):Prop:=match m with
 | .S=>Rp K H A u v
 | .P=>Pk K H A u v
 | .O=>∃a,v=.ref a/\¬A a/\Z.B a=none/\dh K G Z (λb=>A b\/b=a) ρ σ H/\nG K H (λb=>A b\/b=a) u a
def E3 (K:aam)(m:Md)(A:aaL->Prop)(H H':Hp)(u:U)(v:V):Prop:=match m with
 | .S=>Rp K H' A u v
 | .P=>Pk K H' A u v
 | .O=>∃a,v=.ref a/\H a=none/\nG K H' (λb=>A b\/b=a) u a
def NA (K:aam)(G:Gm)(Z:Pkg)(A:aaL->Prop)(b:Bool)(m:Md)(ρ:Ev)(σ:St)(H:Hp):R (U×Ev)->VK->Prop
 | .ok (u,ε),Q=>∀v H',dh K G Z A ε σ H'->fU A H H'->(b=false->ε=ρ/\aO H H')->yL K G Z m A ε σ H' u v->Q v H'
 |_,_=>False
def tD (K:aam)(G:Gm)(b:Bool)(m:Md)(g:Ev->R (U×Ev)):TE:=λσ H Q=>∃Z A ρ,dh K G Z A ρ σ H/\NA K G Z A b m ρ σ H (g ρ) Q
structure DE (X:Cx)(G:Gm)(e:ab6)(b:Bool)(m:Md)(g:Ev->R (U×Ev)):Prop where
 un:PE X e (tD X.K G b m g)
def NB (K:aam)(G:Gm)(Z:Pkg)(A:aaL->Prop)(b:Bool)(ρ:Ev)(σ:St)(H:Hp):R (Bool×Ev)->(Bool->Hp->Prop)->Prop
 | .ok (c,ε),Q=>∀H',dh K G Z A ε σ H'->fU A H H'->(b=false->ε=ρ/\aO H H')->Q c H'
 |_,_=>False
def Ii (K:aam)(G:Gm)(b:Bool)(g:Ev->R (Bool×Ev)):TT:=λσ H Q=>∃Z A ρ,dh K G Z A ρ σ H/\NB K G Z A b ρ σ H (g ρ) Q
structure DT (X:Cx)(G:Gm)(e:ab6)(b:Bool)(g:Ev->R (Bool×Ev)):Prop where
 un:PT X e (Ii X.K G b g)
def MN (K:aam)(H:Hp)(A:aaL->Prop):List U->List V->Prop
 | [],vs=>vs=[]
 |u::us,vs=>∃x r,vs=x::r/\Pk K H A u x/\MN K H A us r
def Uw (K:aam)(p:Bool)(A:aaL->Prop)(H:Hp)(us:List U)(vs:List V):Prop:=if p=true then MN K H A us vs else aU K H A us vs
def NC (K:aam)(G:Gm)(Z:Pkg)(A:aaL->Prop)(b p:Bool)(ρ:Ev)(σ:St)(H:Hp):R (List U×Ev)->(List V->Hp->Prop)->Prop
 | .ok (us,ε),Q=>∀vs H',dh K G Z A ε σ H'->fU A H H'->(b=false->ε=ρ/\aO H H')->Uw K p A H' us vs->Q vs H'
 |_,_=>False
def Yj (K:aam)(G:Gm)(b p:Bool)(g:Ev->R (List U×Ev)):TA:=λσ H Q=>∃Z A ρ,dh K G Z A ρ σ H/\NC K G Z A b p ρ σ H (g ρ) Q
structure DA (X:Cx)(G:Gm)(es:List ab6)(b p:Bool)(g:Ev->R (List U×Ev)):Prop where
 un:PA X es (Yj X.K G b p g)
section
variable {e:ab6}{t t':TE}
theorem PE.to (h:PE X e t)(i:∀σ H Q,t' σ H Q->t σ H Q):PE X e t':=λċ s σ H Q I q=>h ċ s σ H Q I (i _ _ _ q)
theorem PT.to {t t':TT}(h:PT X e t)(i:∀σ H Q,t' σ H Q->t σ H Q):PT X e t':=λċ s σ H Q I q=>h ċ s σ H Q I (i _ _ _ q)
theorem PW.to {t t':TT}(h:PW X e t)(i:∀σ H Q,t' σ H Q->t σ H Q):PW X e t':=λω ċ s σ H Q I q=>h ω ċ s σ H Q I (i _ _ _ q)
theorem PA.to {es:List ab6}{t t':TA}(h:PA X es t)(i:∀σ H Q,t' σ H Q->t σ H Q):PA X es t':=λpos ċ s σ H Q I q=>h pos ċ s σ H Q I (i _ _ _ q)
theorem PS.to {t t':TS}(h:PS X st t)(i:∀D σ H,t' D σ H->t D σ H):PS X st t':=λċ s σ H D I q=>h ċ s σ H D I (i _ _ _ q)
theorem wY.to {st:List adN}{t t':TS}(h:wY X st t)(i:∀D σ H,t' D σ H->t D σ H):wY X st t':=λċ s σ H D I q=>h ċ s σ H D I (i _ _ _ q)
theorem PG.to {t t':TG}(h:PG X e t)(i:∀v σ H Q,t' v σ H Q->t v σ H Q):PG X e t':=λċ s σ H v u Q I r q=>h ċ s σ H v u Q I r (i _ _ _ _ q)
end
section
variable {A':aaL->Prop}{ε:Ev}{m:Md}{b:Bool}
theorem yL.rp (h:yL K G Z m A ρ σ H u v)(n:m≠.P):Rp K H A u v:=by
 cases m with
 |S=>exact h
 |O=>
  obtain⟨a,rfl,na,_,_,t⟩:=h;exact t.rp (λb z=>.inl z) na
 |P=>lia
theorem yL.pk (h:yL K G Z m A ρ σ H u v):Pk K H A u v:=by
 by_cases c:m=.P
 ·subst c;exact h
 ·exact (h.rp c).pk
theorem E3.e (r:dh K G Z A ρ σ H)(s:aO H H')(h:E3 K m A H H' u v):yL K G Z m A ρ σ H' u v:=by
 cases m with
 |S=>exact h
 |P=>exact h
 |O=>
  obtain⟨a,rfl,n,t⟩:=h;exact⟨a,rfl,r.notA n,r.notB n,r.add s n t.mu,t⟩
theorem yL.later (r:dh K G Z A ρ σ H)(h:yL K G Z m A ρ σ H u v)(x:fU A H H')(s:b=false->ε=ρ/\aO H H')(c:m=.P->b=false):Pk K H' A u v:=by
 by_cases d:m=.P
 ·exact h.pk.same (s (c d)).2
 ·exact ((h.rp d).re r.mu x λb z=>.inl z).pk
theorem yL.laterS (r:dh K G Z A ρ σ H)(h:yL K G Z m A ρ σ H u v)(x:fU A H H')(d:m≠.P):Rp K H' A u v:=(h.rp d).re r.mu x λb z=>.inl z
theorem two {b1 b2:Bool}{η ν:Ev}(h1:b1=false->η=ρ/\aO H H1)(h2:b2=false->ν=η/\aO H1 H2):(b1||b2)=false->ν=ρ/\aO H H2:=λh=>by
 rw[abJ] at h;obtain⟨a,b⟩:=h1 h.1;obtain⟨c,d⟩:=h2 h.2;exact⟨c.trans a,b.trans d⟩
theorem og {b1:Bool}{η:Ev}(h1:b1=false->η=ρ/\aO H H1)(h2:aO H1 H2):b1=false->η=ρ/\aO H H2:=λh=>⟨(h1 h).1,(h1 h).2.trans h2⟩
end
def ag (i:Nat):Ev->R (U×Ev):=λρ=>match ρ[i]? with
 |some (some u)=>.ok (u,ρ)
 |_=>.stk
def gC (u:U):Ev->R (U×Ev):=λρ=>.ok (u,ρ)
abbrev zqc (n:Int):Ev->R (U×Ev):=gC (.int n)
section
variable {e a b c:ab6}{es:List ab6}{pos:Pos}
theorem Vm {b:Bool}{m:Md}(h:PE X e (Ry i))(c:G.is i=false):DE X G e false .S (ag i):=by
 refine⟨h.to λσ H Q ⟨Z,A,ρ,r,f⟩=>?_⟩;unfold ag at f;split at f
 ·rename_i u hu;obtain⟨v,h1,h2⟩:=r.val c hu;exact⟨v,h1,f v H r fU.refl (λ_=>⟨rfl,aO.refl _⟩) h2⟩
 ·exact f.elim
def ak (i:Nat)(hN:X.N[i]? = some x:=by rfl)(hv:EM X.env.scope x:=by first|exact Or.inl rfl|exact Or.inr (Or.inl rfl)|exact Or.inr (Or.inr rfl))(hd:(x==("__debug__":Str))=false:=by decide)
  (nE:(x==("__classdict__":Str))=false:=by decide) (c:G.is i=false:=by rfl):DE X G (.Name x pos) false .S (ag i):=Vm (b:=false) (m:=.S) (iV hN hv hd nE) c
theorem fm (i:Nat)(hN:X.N[i]? = some x:=by rfl)(hv:EM X.env.scope x:=by first|exact Or.inl rfl|exact Or.inr (Or.inl rfl)|exact Or.inr (Or.inr rfl))(hd:(x==("__debug__":Str))=false:=by decide)
  (nE:(x==("__classdict__":Str))=false:=by decide) (c:G.is i=true:=by rfl):DE X G (.Name x pos) false .P (ag i):=by
 refine⟨(iV hN hv hd nE).to λσ H Q ⟨Z,A,ρ,r,f⟩=>?_⟩;unfold ag at f;split at f
 ·rename_i u hu;obtain⟨a,h1,_,_,_,h2⟩:=r.own c hu;exact⟨.ref a,h1,f _ H r fU.refl (λ_=>⟨rfl,aO.refl _⟩) h2.pk⟩
 ·exact f.elim
theorem ND (h:PE X e (tC v))(r:∀K H A,Rp K H A u v):DE X G e false .S (gC u):=by
 refine⟨h.to λσ H Q ⟨Z,A,ρ,q,f⟩=>?_⟩;exact f v H q fU.refl (λ_=>⟨rfl,aO.refl _⟩) (r _ _ _)
theorem au {i j pos}:DE X G (.Constant (.int i) j pos) false .S (gC (.int i)):=ND CD λ_ _ _=>by rfl
theorem uE {i j pos}:DE X G (.Constant (.bool i) j pos) false .S (gC (.bl i)):=ND UM λ_ _ _=>by rfl
theorem di {j pos}:DE X G (.Constant .none j pos) false .S (gC .non):=ND Rz λ_ _ _=>by rfl
theorem qu {i j pos}:DE X G (.Constant (.str i) j pos) false .S (gC (.str i)):=ND RA λ_ _ _=>by rfl
noncomputable def aR (p:U->U->R U)(g1 g2:Ev->R (U×Ev)):Ev->R (U×Ev):=λρ=>(g1 ρ).bind λx=>(g2 x.2).bind λy=>(p x.1 y.1).bind λz=>.ok (z,y.2)
def fV (K:aam)(r:R2)(m:Md)(p:U->U->R U):Prop:=∀A H x y u w z Q,Pk K H A u x->Pk K H A w y->(∀a,A a->Mu (H a))->p u w=.ok z->(∀v H',aO H H'->E3 K m A H H' z v->Q v H')->r x y H Q
variable {b1 b2 b3:Bool}{m1 m2 m3 mr:Md}{g1 g2 g3:Ev->R (U×Ev)}
theorem oU {p:U->U->R U}(hp:fV X.K r mr p)(hm:m1=.P->b2=false){Q:VK}(h:tD X.K G (b1||b2) mr (aR p g1 g2) σ H Q) :
  UW r (tD X.K G b1 m1 g1) (tD X.K G b2 m2 g2) σ H Q:=by
 obtain⟨Z,A,ρ,q,f⟩:=h;unfold aR at f;refine⟨Z,A,ρ,q,?_⟩;cases e1:g1 ρ with
 |stk=>rw[e1] at f;exact f.elim
 |exc=>rw[e1] at f;exact f.elim
 |ok x=>
  obtain⟨u,η⟩:=x;rw[e1] at f;intro v1 H1 q1 x1 s1 sP;refine⟨Z,A,η,q1,?_⟩;cases e2:g2 η with
  |stk=>simp only[R.bind,e2] at f;exact f.elim
  |exc=>simp only[R.bind,e2] at f;exact f.elim
  |ok y=>
   obtain⟨w,ν⟩:=y;simp only[R.bind,e2] at f;intro v2 H2 q2 x2 s2 rA;cases e3:p u w with
   |stk=>rw[e3] at f;exact f.elim
   |exc=>rw[e3] at f;exact f.elim
   |ok z=>
    rw[e3] at f;refine hp A H2 v1 v2 u w z Q (sP.later q1 x2 s2 hm) rA.pk q2.mu e3 λv H' sm vm=>?_;exact f v H' (q2.same sm) ((x1.trans x2).trans (fU.same sm)) (og (two s1 s2) sm) (vm.e q2 sm)
theorem bc {op:Operator}{p:U->U->R U}(ho:jT X (acQ op) r)(hp:fV X.K r mr p)(ha:DE X G a b1 m1 g1)(hb:DE X G b b2 m2 g2)(hm:m1=.P->b2=false:=by first|exact λ_=>rfl|exact λh=>nomatch h) :
  DE X G (.BinOp a op b pos) (b1||b2) mr (aR p g1 g2):=⟨(UX ho ha.un hb.un).to λ_ _ _=>oU hp hm⟩
theorem Jg {p:U->U->R U}(ho:jT X (abM op) r)(hp:fV X.K r mr p)(ha:DE X G a b1 m1 g1)(hb:DE X G b b2 m2 g2)(hk:adG op b=false)(hm:m1=.P->b2=false:=by first|exact λ_=>rfl|exact λh=>nomatch h) :
  DE X G (.Compare a [op] [b] pos) (b1||b2) mr (aR p g1 g2):=⟨(Nb ho ha.un hb.un hk).to λ_ _ _=>oU hp hm⟩
theorem bp {p:U->U->R U}(ho:ML X r)(hp:fV X.K r mr p)(ha:DE X G a b1 m1 g1)(hb:DE X G b b2 m2 g2)(hs:EX b)(hm:m1=.P->b2=false:=by first|exact λ_=>rfl|exact λh=>nomatch h) :
  DE X G (.Subscript a b pos) (b1||b2) mr (aR p g1 g2):=⟨(U8 ho ha.un hb.un hs).to λ_ _ _=>oU hp hm⟩
noncomputable def gB (g:Ev->R (U×Ev)):Ev->R (Bool×Ev):=λρ=>(g ρ).bind λx=>match x.1 with
 | .bl c=>.ok (c,x.2)
 |_=>.stk
theorem qv {g:Ev->R (U×Ev)}{m:Md}{Q:Bool->Hp->Prop}(h:Ii X.K G b1 (gB g) σ H Q):tD X.K G b1 m g σ H λx H'=>∃k,x=.bl k/\Q k H':=by
 obtain⟨Z,A,ρ,q,f⟩:=h;refine⟨Z,A,ρ,q,?_⟩;unfold gB at f;cases e1:g ρ with
 |stk=>rw[e1] at f;exact f.elim
 |exc=>rw[e1] at f;exact f.elim
 |ok x=>
  obtain⟨u,η⟩:=x;rw[e1] at f;intro v H1 q1 x1 s1 vm;cases u with
  |bl c=>
   have e:=by have:=vm.pk;exact this
   exact⟨c,e,f H1 q1 x1 s1⟩
  |_=>exact f.elim
theorem qw (h:DE X G e b1 m1 g1)(he:∀ω,isTrue e X.env ω=(do let v ←ω;standAt e.pos;holding [v] (truthy v)):=by intro _;rfl):DT X G e b1 (gB g1):=⟨(RB h.un he).to λ_ _ _ h=>qv h⟩
theorem bG {p:U->U->R U}(ho:jT X (abM op) r)(hp:fV X.K r mr p)(ha:DE X G a b1 m1 g1)(hb:DE X G b b2 m2 g2)(hk:adG op b=false)(hm:m1=.P->b2=false:=by first|exact λ_=>rfl|exact λh=>nomatch h) :
  DT X G (.Compare a [op] [b] pos) (b1||b2) (gB (aR p g1 g2)):=⟨(ET ho ha.un hb.un hk).to λ_ _ _ h=>oU hp hm (qv h)⟩
end
end L2
namespace L2
section
variable {A':aaL->Prop}{ε:Ev}{b p:Bool}{m:Md}{α:Type}
theorem NA.bind {x:R α}{k:α->R (U×Ev)}{Q:VK}(f:NA K G Z A b m ρ σ H (x.bind k) Q):∃a,x=.ok a/\NA K G Z A b m ρ σ H (k a) Q:=by
 cases x with
 |ok a=>exact⟨a,rfl,f⟩
 |exc=>exact f.elim
 |stk=>exact f.elim
theorem NB.bind {x:R α}{k:α->R (Bool×Ev)}{Q:Bool->Hp->Prop}(f:NB K G Z A b ρ σ H (x.bind k) Q):∃a,x=.ok a/\NB K G Z A b ρ σ H (k a) Q:=by
 cases x with
 |ok a=>exact⟨a,rfl,f⟩
 |exc=>exact f.elim
 |stk=>exact f.elim
theorem NC.bind {x:R α}{k:α->R (List U×Ev)}{Q:List V->Hp->Prop}(f:NC K G Z A b p ρ σ H (x.bind k) Q):∃a,x=.ok a/\NC K G Z A b p ρ σ H (k a) Q:=by
 cases x with
 |ok a=>exact⟨a,rfl,f⟩
 |exc=>exact f.elim
 |stk=>exact f.elim
theorem Pk.bl {c:Bool}(h:Pk K H A (.bl c) v):v=.bl c:=by exact h
theorem Pk.int {i:Int}(h:Pk K H A (.int i) v):v=.int i:=by exact h
theorem Pk.str {i:Str}(h:Pk K H A (.str i) v):v=.str i:=by exact h
def jq {c:Bool}:Rp K H A (.bl c) (.bl c):=by rfl
def dJ {c:Int}:Rp K H A (.int c) (.int c):=by rfl
theorem yL.ofS (h:Rp K H A u v):yL K G Z .S A ρ σ H u v:=h
def uF:Rp K H A .non .non:=by rfl
def R9 {c:Str}:Rp K H A (.str c) (.str c):=by rfl
theorem aU.pks:∀{us:List U} {vs:List V},aU K H A us vs->MN K H A us vs
 | [],_,h=>by exact h
 |u::us,_,h=>by
  obtain⟨x,r,e,z,q⟩:=h;exact⟨x,r,e,z.pk,aU.pks q⟩
end
section
variable {e a b c:ab6}{es rest:List ab6}{pos:Pos}{b1 b2 b3:Bool}{m1 m2 m3 mr:Md}{g1 g2 g3:Ev->R (U×Ev)}{h1 h2:Ev->R (Bool×Ev)}
noncomputable def yM (g1 g2:Ev->R (Bool×Ev)):Ev->R (Bool×Ev):=λρ=>(g1 ρ).bind λx=>if x.1=true then g2 x.2 else .ok (false,x.2)
noncomputable def Vn (g1 g2:Ev->R (Bool×Ev)):Ev->R (Bool×Ev):=λρ=>(g1 ρ).bind λx=>if x.1=true then .ok (true,x.2) else g2 x.2
def Jh (g1:Ev->R (Bool×Ev)):Ev->R (Bool×Ev):=λρ=>(g1 ρ).bind λx=>.ok (!x.1,x.2)
structure DW (X:Cx)(G:Gm)(e:ab6)(b:Bool)(g:Ev->R (Bool×Ev)):Prop where
 un:PW X e (Ii X.K G b g)
theorem DW.dt (h:DW X G e b1 h1):DT X G e b1 h1:=⟨PW.pt h.un⟩
theorem Ji {Q:Bool->Hp->Prop}(h:Ii X.K G (b1||b2) (yM h1 h2) σ H Q):UN (Ii X.K G b1 h1) (Ii X.K G b2 h2) σ H Q:=by
 obtain⟨Z,A,ρ,q,f⟩:=h;obtain⟨⟨k,η⟩,e1,f⟩:=f.bind;refine⟨Z,A,ρ,q,?_⟩;rw[e1];intro H1 q1 x1 s1;cases k with
 |true=>
  refine⟨Z,A,η,q1,?_⟩;cases e2:h2 η with
  |ok y=>rw[e2] at f;exact λH2 q2 x2 s2=>f H2 q2 (x1.trans x2) (two s1 s2)
  |exc=>rw[e2] at f;exact f.elim
  |stk=>rw[e2] at f;exact f.elim
 |false=>
  exact f H1 q1 x1 λz=>s1 (abJ.mp z).1
theorem NF {Q:Bool->Hp->Prop}(h:Ii X.K G (b1||b2) (Vn h1 h2) σ H Q):Zx (Ii X.K G b1 h1) (Ii X.K G b2 h2) σ H Q:=by
 obtain⟨Z,A,ρ,q,f⟩:=h;obtain⟨⟨k,η⟩,e1,f⟩:=f.bind;refine⟨Z,A,ρ,q,?_⟩;rw[e1];intro H1 q1 x1 s1;cases k with
 |false=>
  refine⟨Z,A,η,q1,?_⟩;cases e2:h2 η with
  |ok y=>rw[e2] at f;exact λH2 q2 x2 s2=>f H2 q2 (x1.trans x2) (two s1 s2)
  |exc=>rw[e2] at f;exact f.elim
  |stk=>rw[e2] at f;exact f.elim
 |true=>
  exact f H1 q1 x1 λz=>s1 (abJ.mp z).1
theorem oV (ha:DT X G a b1 h1):DW X G (.BoolOp .And [a] pos) b1 h1:=⟨M5 ha.un⟩
theorem R_ (ha:DT X G a b1 h1):DW X G (.BoolOp .Or [a] pos) b1 h1:=⟨RC ha.un⟩
theorem uG (ha:DT X G a b1 h1)(hb:DW X G (.BoolOp .And (b::rest) pos) b2 h2):DW X G (.BoolOp .And (a::b::rest) pos) (b1||b2) (yM h1 h2):=⟨(RD ha.un hb.un).to λ_ _ _=>Ji⟩
theorem Vo (ha:DT X G a b1 h1)(hb:DW X G (.BoolOp .Or (b::rest) pos) b2 h2):DW X G (.BoolOp .Or (a::b::rest) pos) (b1||b2) (Vn h1 h2):=⟨(UO ha.un hb.un).to λ_ _ _=>NF⟩
theorem Jj (ha:DT X G a b1 h1):DT X G (.UnaryOp .Not a pos) b1 (Jh h1):=⟨(RE ha.un).to λσ H Q h=>by
 obtain⟨Z,A,ρ,q,f⟩:=h;obtain⟨⟨k,η⟩,e1,f⟩:=f.bind;refine⟨Z,A,ρ,q,?_⟩;rw[e1];exact λH1 q1 x1 s1=>f H1 q1 x1 s1⟩
noncomputable def Xs (h:Ev->R (Bool×Ev))(g1 g2:Ev->R (U×Ev)):Ev->R (U×Ev):=λρ=>(h ρ).bind λx=>if x.1=true then g1 x.2 else g2 x.2
theorem Jk (hn1:m1≠.P:=by decide)(Y3:m2≠.P:=by decide)(hc:DT X G c b1 h1)(ha:DE X G a b2 m1 g1)(hb:DE X G b b3 m2 g2):DE X G (.IfExp c a b pos) (b1||(b2||b3)) .S (Xs h1 g1 g2):=⟨(Io hc.un ha.un hb.un).to λσ H Q h=>by
 obtain⟨Z,A,ρ,q,f⟩:=h;obtain⟨⟨k,η⟩,e1,f⟩:=f.bind;refine⟨Z,A,ρ,q,?_⟩;rw[e1];intro H1 q1 x1 s1;cases k with
 |true=>
  refine⟨Z,A,η,q1,?_⟩;cases e2:g1 η with
  |ok y=>rw[e2] at f;exact λv2 H2 q2 x2 s2 rA=>f v2 H2 q2 (x1.trans x2) (two s1 λz=>s2 (abJ.mp z).1) (rA.rp hn1)
  |exc=>rw[e2] at f;exact f.elim
  |stk=>rw[e2] at f;exact f.elim
 |false=>
  refine⟨Z,A,η,q1,?_⟩;cases e2:g2 η with
  |ok y=>rw[e2] at f;exact λv2 H2 q2 x2 s2 rA=>f v2 H2 q2 (x1.trans x2) (two s1 λz=>s2 (abJ.mp z).2) (rA.rp Y3)
  |exc=>rw[e2] at f;exact f.elim
  |stk=>rw[e2] at f;exact f.elim⟩
noncomputable def yN (p p':U->U->R U)(g1 g2 g3:Ev->R (U×Ev)):Ev->R (U×Ev):=λρ=>(g1 ρ).bind λx=>(g2 x.2).bind λy=>(p x.1 y.1).bind λz=>match z with
 | .bl k=>if k=true then (g3 y.2).bind λw=>(p' y.1 w.1).bind λz'=>.ok (z',w.2) else .ok (.bl false,y.2)
 |_=>.stk
theorem CZ {p p':U->U->R U}(hp:fV X.K r .S p)(GG:fV X.K r' .S p')(n1:m1≠.P)(n2:m2≠.P){Q:VK}(h:tD X.K G (b1||(b2||b3)) .S (yN p p' g1 g2 g3) σ H Q) :
  IB r r' (tD X.K G b1 m1 g1) (tD X.K G b2 m2 g2) (tD X.K G b3 m3 g3) σ H Q:=by
 obtain⟨Z,A,ρ,q,f⟩:=h;obtain⟨⟨u,η⟩,e1,f⟩:=f.bind;obtain⟨⟨w,ν⟩,e2,f⟩:=f.bind;obtain⟨z,e3,f⟩:=f.bind;refine⟨Z,A,ρ,q,?_⟩;rw[e1];intro v1 H1 q1 x1 s1 sP;refine⟨Z,A,η,q1,?_⟩;rw[e2];intro v2 H2 q2 x2 s2 rA;refine hp A H2 v1 v2 u w z _ (sP.laterS q1 x2 n1).pk rA.pk q2.mu e3 λv H3 sm vm=>?_;cases z with
 |bl k=>
  refine⟨k,(vm).pk.bl,?_⟩;have q3:=q2.same sm;cases k with
  |false=>
   exact f _ H3 q3 ((x1.trans x2).trans (fU.same sm)) (λz=>by
    obtain⟨a,b⟩:=abJ.mp z;exact og (two s1 s2) sm (by lia)) (yL.ofS jq)
  |true=>
   obtain⟨⟨w3,Ω⟩,e4,f⟩:=f.bind;obtain⟨z',e5,f⟩:=f.bind;refine⟨Z,A,ν,q3,?_⟩;rw[e4];intro v4 H4 q4 x4 s4 vm4;refine GG A H4 v2 v4 w w3 z' Q ((rA.rp n2).same sm |>.re q3.mu x4 (λb z=>.inl z)).pk vm4.pk q4.mu e5 λv5 H5 Rk vm5=>?_;refine f v5 H5 (q4.same Rk) (((x1.trans x2).trans (fU.same sm)).trans (x4.trans (fU.same Rk))) ?_ (vm5.e q4 Rk);intro z;obtain⟨a,b⟩:=abJ.mp z;obtain⟨b,c⟩:=abJ.mp b;exact og (two (og (two s1 s2) sm) s4) Rk (by rw[a,b,c];rfl)
 |_=>exact f.elim
theorem Jl {T_:CmpOp}{p p':U->U->R U}(ho:jT X (abM op) r)(hp:fV X.K r .S p)(EC:jT X (abM T_) r')(GG:fV X.K r' .S p')(ha:DE X G a b1 m1 g1)(hb:DE X G b b2 m2 g2)(hc:DE X G c b3 m3 g3)(n1:m1≠.P:=by decide)(n2:m2≠.P:=by decide)(hm:lastMarks [op,T_] [b,c]=false:=by with_unfolding_all rfl):DT X G (.Compare a [op,T_] [b,c] pos) (b1||(b2||b3)) (gB (yN p p' g1 g2 g3)):=⟨(IC ho EC ha.un hb.un hc.un hm).to λ_ _ _ h=>CZ hp GG n1 n2 (qv h)⟩
def Vp (p:U->R U)(g:Ev->R (U×Ev)):Ev->R (U×Ev):=λρ=>(g ρ).bind λx=>(p x.1).bind λz=>.ok (z,x.2)
def Sa (K:aam)(r:V->Hp->VK->Prop)(m:Md)(p:U->R U):Prop:=∀A H x u z Q,Pk K H A u x->(∀a,A a->Mu (H a))->p u=.ok z->(∀v H',aO H H'->E3 K m A H H' z v->Q v H')->r x H Q
theorem NG {r:V->Hp->VK->Prop}{p:U->R U}(hp:Sa X.K r mr p){Q:VK}(h:tD X.K G b1 mr (Vp p g1) σ H Q):Zz r (tD X.K G b1 m1 g1) σ H Q:=by
 obtain⟨Z,A,ρ,q,f⟩:=h;obtain⟨⟨u,η⟩,e1,f⟩:=f.bind;obtain⟨z,e2,f⟩:=f.bind;refine⟨Z,A,ρ,q,?_⟩;rw[e1];intro v1 H1 q1 x1 s1 sP;exact hp A H1 v1 u z Q sP.pk q1.mu e2 λv H' sm vm=>f v H' (q1.same sm) (x1.trans (fU.same sm)) (og s1 sm) (vm.e q1 sm)
def PR {op:UnaryOp}{r:V->Hp->VK->Prop}{p:U->R U}(ho:Xn X (unaryOp op) r)(hp:Sa X.K r mr p)(ha:DE X G a b1 m1 g1):DE X G (.UnaryOp op a pos) b1 mr (Vp p g1):=⟨(PF ho ha.un).to λ_ _ _=>NG hp⟩
def aq:Ev->R (List U×Ev):=λρ=>.ok ([],ρ)
noncomputable def af (g:Ev->R (U×Ev))(ga:Ev->R (List U×Ev)):Ev->R (List U×Ev):=λρ=>(g ρ).bind λx=>(ga x.2).bind λy=>.ok (x.1::y.1,y.2)
abbrev b1x (i:Nat):=af (ag i) aq
abbrev yqa (i j:Nat):=af (ag i) (b1x j)
variable {ga:Ev->R (List U×Ev)}{p:Bool}
theorem ai:DA X G [] false p aq:=⟨n_.to λσ H Q ⟨Z,A,ρ,q,f⟩=>f [] H q fU.refl (λ_=>⟨rfl,aO.refl _⟩) (by unfold Uw;split;exact rfl;rfl)⟩
theorem ae (ha:DE X G e b1 m1 g1)(hr:DA X G es b2 p ga)(hm:m1=.P->(p=true/\b2=false):=by first|exact λ_=>⟨rfl,rfl⟩|exact λh=>nomatch h)
  (hs:aaN (e::es) X.env=(false,adM e X.env)::aaN es X.env:=by rfl):DA X G (e::es) (b1||b2) p (af g1 ga):=⟨(jU ha.un hr.un hs).to λσ H Q h=>by
 obtain⟨Z,A,ρ,q,f⟩:=h;obtain⟨⟨u,η⟩,e1,f⟩:=f.bind;obtain⟨⟨us,ν⟩,e2,f⟩:=f.bind;refine⟨Z,A,ρ,q,?_⟩;rw[e1];intro v1 H1 q1 x1 s1 sP;refine⟨Z,A,η,q1,?_⟩;rw[e2];intro vs H2 q2 x2 s2 rA;refine f _ H2 q2 (x1.trans x2) (two s1 s2) ?_;cases p with
 |true=>
  exact⟨v1,vs,rfl,sP.later q1 x2 s2 (λz=>(hm z).2),rA⟩
 |false=>
  exact aU.cons (sP.laterS q1 x2 λz=>aaB (hm z).1) rA⟩
theorem Uw.pks (h:Uw K p A H us vs):MN K H A us vs:=by
 cases p with
 |true=>exact h
 |false=>exact h.pks
theorem Uw.rps (h:Uw K false A H us vs):aU K H A us vs:=by
 exact h
noncomputable def bQ (ga:Ev->R (List U×Ev)):Ev->R (U×Ev):=λρ=>(ga ρ).bind λx=>if x.1.length<=aaf then .ok (.tup x.1,x.2) else .stk
noncomputable def i_ (ga:Ev->R (List U×Ev)):Ev->R (U×Ev):=λρ=>(ga ρ).bind λx=>if x.1.length<=aaf then .ok (.lst x.1,x.2) else .stk
theorem cD {p:aaL}(h:H p=none)(o:HO):aO H (dz H p o):=λb u q=>by rw[bB (cH q h)];exact q
theorem mQ {a:aaL}(h:aU K H A us vs)(n:H a=none)(l:us.length<=aaf):Rp K (dz H a (.tup vs)) A (.tup us) (.ref a):=by
 exact⟨a,vs,rfl,bD,l,h.same (cD n _)⟩
theorem cI {a:aaL}(m:∀b,A b->Mu (H b))(h:aU K H A us vs)(n:H a=none)(l:us.length<=aaf):nG K (dz H a (.lst vs)) (λb=>A b\/b=a) (.lst us) a:=
 ⟨vs,bD,l,h.re m (fU.same (cD n _)) λb z=>by
  lia⟩
theorem cO {x1}(h:DA X G es b1 false ga):DE X G (.Tuple es x1 pos) b1 .S (bQ ga):=⟨(RQ h.un).to λσ H Q h=>by
 obtain⟨Z,A,ρ,q,f⟩:=h;obtain⟨⟨us,η⟩,e1,f⟩:=f.bind;refine⟨Z,A,ρ,q,?_⟩;rw[e1];intro vs H1 q1 x1 s1 sP;split at f
 ·rename_i l;refine⟨by rw[←sP.rps.length];exact l,λa n=>?_⟩;exact f _ _ (q1.same (cD n _)) (x1.trans (fU.same (cD n _))) (og s1 (cD n _)) (yL.ofS (mQ sP.rps n l))
 ·exact f.elim⟩
theorem ir (h:DA X G es b1 false ga):DE X G (.List es pos) b1 .O (i_ ga):=⟨(IE h.un).to λσ H Q h=>by
 obtain⟨Z,A,ρ,q,f⟩:=h;obtain⟨⟨us,η⟩,e1,f⟩:=f.bind;refine⟨Z,A,ρ,q,?_⟩;rw[e1];intro vs H1 q1 x1 s1 sP;split at f
 ·rename_i l;refine⟨by rw[←sP.rps.length];exact l,λa n=>?_⟩;exact f _ _ (q1.same (cD n _)) (x1.trans (fU.same (cD n _))) (og s1 (cD n _)) (E3.e q1 (cD n _) ⟨a,rfl,n,cI q1.mu sP.rps n l⟩)
 ·exact f.elim⟩
noncomputable def fi (p:List U->R U)(ga:Ev->R (List U×Ev)):Ev->R (U×Ev):=λρ=>(ga ρ).bind λx=>(p x.1).bind λz=>.ok (z,x.2)
def lT (K:aam)(r:List V->Hp->VK->Prop)(m:Md)(p:List U->R U):Prop:=∀A H vs us z Q,MN K H A us vs->(∀a,A a->Mu (H a))->p us=.ok z->(∀v H',aO H H'->E3 K m A H H' z v->Q v H')->r vs H Q
theorem t9 {r:List V->Hp->VK->Prop}{f:List U->R U}(hp:lT X.K r mr f){Q:VK}(h:tD X.K G b1 mr (fi f ga) σ H Q):Yc r (Yj X.K G b1 p ga) σ H Q:=by
 obtain⟨Z,A,ρ,q,f⟩:=h;obtain⟨⟨us,η⟩,e1,f⟩:=f.bind;obtain⟨z,e2,f⟩:=f.bind;refine⟨Z,A,ρ,q,?_⟩;rw[e1];intro vs H1 q1 x1 s1 sP;exact hp A H1 vs us z Q sP.pks q1.mu e2 λv H' sm vm=>f v H' (q1.same sm) (x1.trans (fU.same sm)) (og s1 sm) (vm.e q1 sm)
theorem bj {id:String}{p1:Pos}{r:List V->Hp->VK->Prop}{f:List U->R U}(hc:eW X (.builtin id) r)(hp:lT X.K r mr f)(hg:Gl X x)(hm:X.mg x=none)(hv:abk x=some (.builtin id))(ha:DA X G (e::es) b1 true ga)(hn:x≠"__name__":=by decide)(ED:(x==("__debug__":Str))=false:=by decide)
  (he:aaN (e::es) X.env=(false,adM e X.env)::aaN es X.env:=by rfl) (sO:(acy pos (aaN es X.env)).any (·.1)=false:=by rfl):DE X G (.Call (.Name x p1) (e::es) [] pos) b1 mr (fi f ga):=⟨(oM hc hg hm hv ha.un hn ED he sO).to λ_ _ _=>t9 hp⟩
theorem bh {p1:Pos}{r:List V->Hp->VK->Prop}{f:List U->R U}(hc:eW X (.type T) r)(hp:lT X.K r mr f)(hg:Gl X x)(hm:X.mg x=none)(hv:abk x=some (.type T))(ha:DA X G (e::es) b1 true ga)(hn:x≠"__name__":=by decide)(ED:(x==("__debug__":Str))=false:=by decide)(he:aaN (e::es) X.env=(false,adM e X.env)::aaN es X.env:=by rfl)(sO:(acy pos (aaN es X.env)).any (·.1)=false:=by rfl):DE X G (.Call (.Name x p1) (e::es) [] pos) b1 mr (fi f ga):=⟨(ik hc hg hm hv ha.un hn ED he sO).to λ_ _ _=>t9 hp⟩
end
end L2
namespace L2
section
variable {A':aaL->Prop}{ε:Ev}{b p:Bool}{m:Md}{α:Type}
theorem nG.mono (n:∀b,A' b->A b)(h:nG K H A u a):nG K H A' u a:=by
 cases u<;>(unfold nG at h ⊢)
 case lst us=>obtain⟨xs,q,l,z⟩:=h;exact⟨xs,q,l,z.mono n⟩
 case dct ks us=>obtain⟨xs,q,l,z⟩:=h;exact⟨xs,q,l,z.mono n⟩
 all_goals exact h.elim
theorem dR {α:Type}{l:List (Option α)}{x:Option α}{y:α}(h:(l.set i x)[j]? = some (some y)):(i=j/\x=some y)\/(i≠j/\l[j]? = some (some y)):=by
 by_cases e:i=j
 ·subst e;rw[List.getElem?_set_self'] at h;refine .inl ⟨rfl,?_⟩;cases q:l[i]? with
  |none=>rw[q] at h;cases h
  |some w=>rw[q] at h;exact aaP h
 ·rw[aaV e] at h;exact .inr ⟨e,h⟩
theorem t_ {α:Type}{l l':List (Option α)}{x:α}{β:Type}{k:List (Option β)}{y:Option β}{z:β}(hl:k.length=l.length)(h:(k.set i y)[i]? = some (some z)):(l.set i (some x))[i]? = some (some x):=by
 grind
theorem dh.set (r:dh K G Z A ρ σ H)(c:G.is i=false)(h:Rp K H A u v):dh K G Z A (ρ.set i (some u)) (σ.set i (some v)) H where
 slot:=λj w hj=>by
  rcases dR hj with⟨rfl,e⟩|⟨ne,e⟩
  ·cases e;refine⟨v,t_ (l':=σ) r.len hj,?_⟩;rw[hV (by rw[c];exact aaB)];exact h
  ·rw[aaV ne];exact r.slot j w e
 dis:=λj k w w' a cj ck ne hj hk sj sk=>by
  rcases dR hj with⟨rfl,_⟩|⟨n1,e1⟩
  ·lia
  ·rcases dR hk with⟨rfl,_⟩|⟨n2,e2⟩
   ·lia
   ·rw[aaV n1] at sj;rw[aaV n2] at sk;exact r.dis j k w w' a cj ck ne e1 e2 sj sk
 mu:=r.mu
 sup:=r.sup
 out:=r.out
 bas:=r.bas
 io0:=λh0=>by
  obtain⟨a,b⟩:=r.io0 h0;grind
 len:=by rw[abu,abu];exact r.len
theorem dh.drop (r:dh K G Z A ρ σ H)(i:Nat):dh K G Z A (ρ.set i none) σ H where
 slot:=λj w hj=>by
  rcases dR hj with⟨rfl,e⟩|⟨ne,e⟩
  ·cases e
  ·exact r.slot j w e
 dis:=λj k w w' a cj ck ne hj hk sj sk=>by
  rcases dR hj with⟨rfl,e⟩|⟨n1,e1⟩
  ·cases e
  ·rcases dR hk with⟨rfl,e⟩|⟨n2,e2⟩
   ·cases e
   ·exact r.dis j k w w' a cj ck ne e1 e2 sj sk
 mu:=r.mu
 sup:=r.sup
 out:=r.out
 bas:=r.bas
 io0:=r.io0
 len:=by rw[abu];exact r.len
theorem dh.setO (r:dh K G Z A ρ σ H)(c:G.is i=true)(hi:G.io=true->i≠0)(na:¬A a)(nb:Z.B a=none)(r':dh K G Z (λb=>A b\/b=a) ρ σ H)(h:nG K H (λb=>A b\/b=a) u a) :
  dh K G Z (λb=>A b\/b=a) (ρ.set i (some u)) (σ.set i (some (.ref a))) H where
 slot:=λj w hj=>by
  rcases dR hj with⟨rfl,e⟩|⟨ne,e⟩
  ·cases e;refine⟨.ref a,t_ (l':=σ) r.len hj,?_⟩;rw[hZ c];exact⟨a,rfl,.inr rfl,nb,.inl λz=>na (r.sup a z),h⟩
  ·rw[aaV ne];exact r'.slot j w e
 dis:=λj k w w' b cj ck ne hj hk sj sk=>by
  have key:∀k w',G.is k=true->i≠k->ρ[k]? = some (some w')->σ[k]? ≠ some (some (.ref a)):=λk w' ck _ e q=>by
   obtain⟨b,h1,h2,_⟩:=r.own ck e;lia
  rcases dR hj with⟨rfl,e1⟩|⟨n1,e1⟩
  ·rcases dR hk with⟨rfl,_⟩|⟨n2,e2⟩
   ·exact ne rfl
   ·rw[t_ (l':=σ) r.len hj] at sj;cases sj;rw[aaV n2] at sk;exact key k w' ck n2 e2 sk
  ·rcases dR hk with⟨rfl,e2⟩|⟨n2,e2⟩
   ·rw[t_ (l':=σ) r.len hk] at sk;cases sk;rw[aaV n1] at sj;exact key j w cj n1 e1 sj
   ·rw[aaV n1] at sj;rw[aaV n2] at sk;exact r.dis j k w w' b cj ck ne e1 e2 sj sk
 mu:=r'.mu
 sup:=r'.sup
 out:=r'.out
 bas:=r'.bas
 io0:=λh0=>by
  obtain⟨a,b⟩:=r.io0 h0;exact⟨by rw[aaV (hi h0)];exact a,b⟩
 len:=by rw[abu,abu];exact r.len
theorem dh.put (r:dh K G Z A ρ σ H){w:U}(c:G.is i=true)(h:ρ[i]? = some (some u))(ha:σ[i]? = some (some (.ref a)))(e:∀b o,b≠a->H b=some o->H' b=some o)(t:nG K H' A w a) :
  dh K G Z A (ρ.set i (some w)) σ H':=by
 obtain⟨a',h1,h2,h3,h4,h5⟩:=r.own c h;rw[ha] at h1;cases h1;have x:fU A H H':=λb o nb z=>e b o (λq=>nb (q▸h2)) z;exact {
  slot:=λj y hj=>by
   rcases dR hj with⟨rfl,q⟩|⟨ne,q⟩
   ·cases q;refine⟨.ref a,ha,?_⟩;rw[hZ c];exact⟨a,rfl,h2,h3,h4,t⟩
   ·obtain⟨v,s1,s2⟩:=r.slot j y q;refine⟨v,s1,?_⟩;by_cases cj:G.is j=true
    ·rw[hZ cj] at s2 ⊢;obtain⟨b,e1,e2,e3,e4,e5⟩:=s2;refine⟨b,e1,e2,e3,e4,e5.re r.mu x (λb z=>.inl z) λo z=>e b o (λq'=>?_) z⟩;subst q' e1;exact r.dis i j u y b c cj ne h q ha s1
    ·rw[hV cj] at s2 ⊢;exact s2.re r.mu x λb z=>.inl z
  dis:=λj k y y' b cj ck ne hj hk sj sk=>by
   have f:∀j y,(ρ.set i (some w))[j]? = some (some y)->∃y',ρ[j]? = some (some y'):=λj y hj=>by
    rcases dR hj with⟨rfl,q⟩|⟨ne,q⟩
    ·exact⟨u,h⟩
    ·exact⟨y,q⟩
   obtain⟨y1,hj⟩:=f j y hj;obtain⟨y2,hk⟩:=f k y' hk;exact r.dis j k y1 y2 b cj ck ne hj hk sj sk
  mu:=λb z=>by
   by_cases q:b=a
   ·subst q;exact t.mu
   ·have m:=r.mu b z;obtain⟨o,z⟩:=m.ex;rw[e b o q z,←z];exact m
  sup:=r.sup
  out:=r.out
  bas:=λb o z=>e b o (λq=>by lia) (r.bas b o z)
  io0:=r.io0
  len:=by rw[abu];exact r.len}
end
def Vq (K:aam)(m:Md)(A:aaL->Prop)(H:Hp):R U->VK->Prop
 | .ok u,Q=>∀v H',aO H H'->E3 K m A H H' u v->Q v H'
 |_,_=>False
def C0 {α:Type}(n:Nat)(g:List U->R α)(us:List U):R α:=if us.length=n then g us else .stk
def fh (K:aam)(n:Nat)(f:List U->R U)(m:Md):Sp:=λvs H Q _=>∃us A,aU K H A us vs/\(∀a,A a->Mu (H a))/\Vq K m A H (C0 n f us) Q
def Jm (K:aam)(n:Nat)(f:List U->R (U×U)):Sp:=λvs H Q _=>∃u0 us a0 Õ A,vs=.ref a0::Õ/\A a0/\nG K H A u0 a0/\aU K H A us Õ/\(∀a,A a->Mu (H a))/\match C0 n f (u0::us) with
 | .ok (u,w)=>∀v H',(∀b o,b≠a0->H b=some o->H' b=some o)->nG K H' A w a0->Rp K H' A u v->Q v H'
 |_=>False
section
variable {e a b c:ab6}{es rest:List ab6}{pos p1:Pos}{b1 b2 b3:Bool}{m1 m2 m3 mr:Md}{g1 g2 g3:Ev->R (U×Ev)}{h1 h2:Ev->R (Bool×Ev)}{ga:Ev->R (List U×Ev)}
noncomputable def eo (n:Nat)(f:List U->R U)(ga:Ev->R (List U×Ev)):Ev->R (U×Ev):=λρ=>(ga ρ).bind λx=>(C0 n f x.1).bind λz=>.ok (z,x.2)
theorem aB {f:List U->R U}(F:Fn X.prog X.w X.K X.mg X.base x k ps (fh X.K n f mr))(hr:gD k X.A)(ha:DA X G (e::es) b1 false ga)(hg:Gl X x:=by rfl)(ED:(x==("__debug__":Str))=false:=by decide)(he:aaN (e::es) X.env=(false,adM e X.env)::aaN es X.env:=by rfl)(sO:(acy pos (aaN es X.env)).any (·.1)=false:=by rfl):DE X G (.Call (.Name x p1) (e::es) [] pos) b1 mr (eo n f ga):=⟨(AL F hr ha.un hg ED he sO).to λσ H Q h=>by
 obtain⟨Z,A,ρ,q,f⟩:=h;obtain⟨⟨us,η⟩,e1,f⟩:=f.bind;obtain⟨z,e2,f⟩:=f.bind;refine⟨Z,A,ρ,q,?_⟩;rw[e1];intro vs H1 q1 x1 s1 sP;rw[abG];refine⟨us,A,sP.rps,q1.mu,?_⟩;rw[e2];exact λv H' sm vm=>f v H' (q1.same sm) (x1.trans (fU.same sm)) (og s1 sm) (vm.e q1 sm)⟩
def live (ρ:Ev)(i:Nat):Bool:=match ρ[i]? with
 |some (some _)=>true
 |_=>false
theorem yO (h:live ρ i=true):∃u,ρ[i]? = some (some u):=by
 unfold live at h;split at h
 ·rename_i u hu;exact⟨u,hu⟩
 ·cases h
def qx (n i:Nat)(f:List U->R (U×U))(ga:Ev->R (List U×Ev)):Ev->R (U×Ev):=λρ=>if live ρ i=true then (ga ρ).bind λx=>match x.2[i]? with
 |some (some u0)=>(C0 n f (u0::x.1)).bind λz=>.ok (z.1,x.2.set i (some z.2))
 |_=>.stk
 else .stk
theorem bY {y:Str}{p2:Pos}{f:List U->R (U×U)}(F:Fn X.prog X.w X.K X.mg X.base x k ps (Jm X.K n f))(hr:gD k X.A)(ha:DA X G es b1 false ga)(hN:X.N[i]? = some y:=by rfl)(hv:EM X.env.scope y:=by first|exact Or.inl rfl|exact Or.inr (Or.inl rfl)|exact Or.inr (Or.inr rfl))(c:G.is i=true:=by rfl)(hd:(y==("__debug__":Str))=false:=by decide)(nE:(y==("__classdict__":Str))=false:=by decide)(hs:aaN (.Name y p2::es) X.env=(false,adM (.Name y p2) X.env)::aaN es X.env:=by rfl)(hg:Gl X x:=by rfl)(ED:(x==("__debug__":Str))=false:=by decide)(sO:(acy pos (aaN es X.env)).any (·.1)=false:=by rfl):DE X G (.Call (.Name x p1) (.Name y p2::es) [] pos) true .S (qx n i f ga):=⟨(AL F hr (jU (iV hN hv hd nE) ha.un hs) hg ED hs sO).to λσ H Q h=>by
 obtain⟨Z,A,ρ,q,f⟩:=h;unfold qx at f;split at f
 ·rename_i hl;obtain⟨é,Ξ⟩:=yO hl;obtain⟨a0,h0,_⟩:=q.own c Ξ;obtain⟨⟨us,η⟩,e1,f⟩:=f.bind;split at f
  ·rename_i u0 hu;obtain⟨⟨z,w⟩,e2,f⟩:=f.bind;refine⟨.ref a0,h0,Z,A,ρ,q,?_⟩;rw[e1];intro vs H1 q1 x1 s1 sP;obtain⟨ç,k1,k2,_,_,k3⟩:=q1.own c hu;rw[h0] at k1;cases k1;rw[abG];refine⟨u0,us,a0,vs,A,rfl,k2,k3,sP.rps,q1.mu,?_⟩;rw[e2];intro v H' em tp rp;exact f v H' (q1.put c hu h0 em tp) (x1.trans λb o nb z=>em b o (λy=>nb (y▸k2)) z) (λz=>nomatch z) rp
  ·exact f.elim
 ·exact f.elim⟩
def Jn (K:aam)(T:String)(r:V->List V->Hp->VK->Prop)(p:U->List U->R (U×U)):Prop:=∀A H a u vs us z w Q,nG K H A u a->A a->aU K H A us vs->(∀a,A a->Mu (H a))->p u us=.ok (z,w)->
 (∀v H',(∀b o,b≠a->H b=some o->H' b=some o)->nG K H' A w a->Rp K H' A z v->Q v H')->r (.ref a) vs H Q
def G8:U->String->Bool
 | .lst _,T=>T=="list"
 |_,_=>false
theorem Sb {a:aaL}(h:nG K H A u a)(t:G8 u T=true):Ye K T (.ref a) H:=by
 cases u<;>(unfold G8 at t)
 case lst us=>
  obtain⟨xs,q,_⟩:=h;exact .inl ⟨by simpa using t,xs,.inl (.inl q)⟩
 all_goals cases t
def gM (T:String)(i:Nat)(p:U->List U->R (U×U))(ga:Ev->R (List U×Ev)):Ev->R (U×Ev):=λρ=>match ρ[i]? with
 |some (some u1)=>if G8 u1 T=true then (ga ρ).bind λx=>match x.2[i]? with
  |some (some u0)=>(p u0 x.1).bind λz=>.ok (z.1,x.2.set i (some z.2))
  |_=>.stk
  else .stk
 |_=>.stk
theorem Jo {r:V->List V->Hp->VK->Prop}{p:U->List U->R (U×U)}(hp:Jn X.K T r p)(c:G.is i=true){Q:VK}(h:tD X.K G true .S (gM T i p ga) σ H Q) :
  ZE X.K T r (Ry i) (Yj X.K G b1 false ga) σ H Q:=by
 obtain⟨Z,A,ρ,q,f⟩:=h;unfold gM at f;split at f
 ·rename_i u1 jK;split at f
  ·rename_i ht;obtain⟨a0,h0,_,_,_,t0⟩:=q.own c jK;obtain⟨⟨us,η⟩,e1,f⟩:=f.bind;split at f
   ·rename_i u0 hu;obtain⟨⟨z,w⟩,e2,f⟩:=f.bind;refine⟨.ref a0,h0,Sb t0 ht,Z,A,ρ,q,?_⟩;rw[e1];intro vs H1 q1 x1 s1 sP;obtain⟨ç,k1,k2,_,_,k3⟩:=q1.own c hu;rw[h0] at k1;cases k1;exact hp A H1 a0 u0 vs us z w Q k3 k2 sP.rps q1.mu e2 λv H' em tp rp=>f v H' (q1.put c hu h0 em tp) (x1.trans λb o nb z=>em b o (λy=>nb (y▸k2)) z) (λz=>nomatch z) rp
   ·exact f.elim
  ·exact f.elim
 ·exact f.elim
def iW {id:String}{y name:Str}{p2 fA:Pos}{r:V->List V->Hp->VK->Prop}{p:U->List U->R (U×U)}(pa:PlainAttrs T)(slot:Slot T name id)(YY:typeOf (.builtin id)=pure (.type "method_descriptor"))(hm:Nk X id r)(hp:Jn X.K T r p)(ha:DA X G (e::es) b1 false ga)(hN:X.N[i]? = some y:=by rfl)(hv:EM X.env.scope y:=by first|exact Or.inl rfl|exact Or.inr (Or.inl rfl)|exact Or.inr (Or.inr rfl))(c:G.is i=true:=by rfl)(hd:(y==("__debug__":Str))=false:=by decide)(nE:(y==("__classdict__":Str))=false:=by decide)(wB:adH (.Name y p2) name X.env (adM (.Name y p2) X.env)=adM (.Name y p2) X.env:=by rfl)(EE:((acy pos (aaN (e::es) X.env)).all (λx=> !x.1)&&(backToKw pos (aey [] X.env)).all (λx=>x.1.isSome)
   && decide ((e::es).length+([]:List aed).length+(if ([]:List aed).isEmpty then 0 else 1)<30))=true:=by rfl)(wC:(fA.endLine==pos.line)=true:=by rfl)(hs:aaN (e::es) X.env=(false,adM e X.env)::aaN es X.env:=by rfl)(oJ:(acy pos (aaN es X.env)).any (·.1)=false:=by rfl) :
  DE X G (.Call (.Attribute (.Name y p2) name fA) (e::es) [] pos) true .S (gM T i p ga):=⟨(IJ pa slot YY hm (iV hN hv hd nE) ha.un wB EE wC hs oJ).to λ_ _ _=>Jo hp c⟩
def Jp (K:aam)(r:V->Option Int->Option Int->Hp->VK->Prop)(m:Md)(p:U->Option Int->Option Int->R U):Prop:=∀A H x u lo hi z Q,Pk K H A u x->(∀a,A a->Mu (H a))->p u lo hi=.ok z->(∀v H',aO H H'->E3 K m A H H' z v->Q v H')->r x lo hi H Q
def Ym (K:aam)(G:Gm)(Z:Pkg)(A:aaL->Prop)(b:Bool)(ρ:Ev)(σ:St)(H:Hp):R (Option Int×Ev)->(Option Int->Hp->Prop)->Prop
 | .ok (c,ε),Q=>∀H',dh K G Z A ε σ H'->fU A H H'->(b=false->ε=ρ/\aO H H')->Q c H'
 |_,_=>False
def tDO (K:aam)(G:Gm)(b:Bool)(g:Ev->R (Option Int×Ev)):TO:=λσ H Q=>∃Z A ρ,dh K G Z A ρ σ H/\Ym K G Z A b ρ σ H (g ρ) Q
structure DO (X:Cx)(G:Gm)(e:Option ab6)(b:Bool)(g:Ev->R (Option Int×Ev)):Prop where
 un:PO X e (tDO X.K G b g)
def nH:Ev->R (Option Int×Ev):=λρ=>.ok (none,ρ)
noncomputable def l6 (g:Ev->R (U×Ev)):Ev->R (Option Int×Ev):=λρ=>(g ρ).bind λx=>match x.1 with
 | .int i=>.ok (some i,x.2)
 |_=>.stk
theorem PO.to {e:Option ab6}{t t':TO}(h:PO X e t)(i:∀σ H Q,t' σ H Q->t σ H Q):PO X e t':=λċ s σ H Q I q=>h ċ s σ H Q I (i _ _ _ q)
def mR:DO X G none false nH:=⟨Ni.to λσ H Q ⟨Z,A,ρ,q,f⟩=>f H q fU.refl λ_=>⟨rfl,aO.refl _⟩⟩
theorem mS (h:DE X G e b1 m1 g1):DO X G (some e) b1 (l6 g1):=⟨(EV h.un).to λσ H Q θ=>by
 obtain⟨Z,A,ρ,q,f⟩:=θ;refine⟨Z,A,ρ,q,?_⟩;unfold l6 at f;cases e1:g1 ρ with
 |stk=>rw[e1] at f;exact f.elim
 |exc=>rw[e1] at f;exact f.elim
 |ok x=>
  obtain⟨u,η⟩:=x;rw[e1] at f;intro v H1 q1 x1 s1 vm;cases u with
  |int c=>exact⟨c,vm.pk.int,f H1 q1 x1 s1⟩
  |_=>exact f.elim⟩
noncomputable def MO (p:U->Option Int->Option Int->R U)(g:Ev->R (U×Ev))(lo hi:Ev->R (Option Int×Ev)):Ev->R (U×Ev):=λρ=>(g ρ).bind λx=>(lo x.2).bind λl=>(hi l.2).bind λh=>(p x.1 l.1 h.1).bind λz=>.ok (z,h.2)
theorem kz {r:V->Option Int->Option Int->Hp->VK->Prop}{p:U->Option Int->Option Int->R U}{lo hi:Option ab6}{p2:Pos}{gl gh:Ev->R (Option Int×Ev)}(hr:IG X r)(hp:Jp X.K r mr p)(he:DE X G e b1 m1 g1)(hl:DO X G lo b2 gl)(hu:DO X G hi b3 gh)
  (hm:m1=.P->(b2||b3)=false:=by first|exact λ_=>rfl|exact λh=>nomatch h):DE X G (.Subscript e (.Slice lo hi none p2) pos) (b1||(b2||b3)) mr (MO p g1 gl gh):=⟨(IH hr he.un hl.un hu.un).to λσ H Q h=>by
 obtain⟨Z,A,ρ,q,f⟩:=h;obtain⟨⟨u,η⟩,e1,f⟩:=f.bind;obtain⟨⟨l,ν⟩,e2,f⟩:=f.bind;obtain⟨⟨h,Ω⟩,e3,f⟩:=f.bind;obtain⟨z,e4,f⟩:=f.bind;refine⟨Z,A,ρ,q,?_⟩;rw[e1];intro v1 H1 q1 x1 s1 sP;refine⟨Z,A,η,q1,?_⟩;rw[e2];intro H2 q2 x2 s2;refine⟨Z,A,ν,q2,?_⟩;rw[e3];intro H3 q3 x3 s3;exact hp A H3 v1 u l h z Q (sP.later q1 (x2.trans x3) (two s2 s3) hm) q3.mu e4 λv H' sm vm=>f v H' (q3.same sm) ((x1.trans (x2.trans x3)).trans (fU.same sm)) (og (two s1 (two s2 s3)) sm) (vm.e q3 sm)⟩
end
end L2
namespace L2
def Yn (K:aam)(G:Gm)(sg:U->Ev->R Ev):TG:=λv σ H Q=>∃Z A ρ u,dh K G Z A ρ σ H/\Rp K H A u v/\match sg u ρ with
 | .ok ε=>∀ζ,dh K G Z A ε ζ H->(∀i,G.is i=true->ζ[i]? = σ[i]?)->Q ζ H
 |_=>False
structure DG (X:Cx)(G:Gm)(tg:ab6)(sg:U->Ev->R Ev):Prop where
 un:PG X tg (Yn X.K G sg)
def Yo (K:aam)(G:Gm)(sg:List U->Ev->R Ev):M6:=λvs σ H Q=>∃Z A ρ us,dh K G Z A ρ σ H/\aU K H A us vs/\match sg us ρ with
 | .ok ε=>∀ζ,dh K G Z A ε ζ H->(∀i,G.is i=true->ζ[i]? = σ[i]?)->Q ζ H
 |_=>False
structure Xt (X:Cx)(G:Gm)(tgs:List ab6)(sg:List U->Ev->R Ev):Prop where
 un:PD X tgs (Yo X.K G sg)
def ba (i:Nat):U->Ev->R Ev:=λu ρ=>.ok (ρ.set i (some u))
def bT:List U->Ev->R Ev:=λus ρ=>match us with
 | []=>.ok ρ
 |_=>.stk
noncomputable def ay (s:U->Ev->R Ev)(t:List U->Ev->R Ev):List U->Ev->R Ev:=λus ρ=>match us with
 |u::r=>(s u ρ).bind λη=>t r η
 |_=>.stk
noncomputable def bL (n:Nat)(t:List U->Ev->R Ev):U->Ev->R Ev:=λu ρ=>match u with
 | .tup us=>if us.length=n then t us ρ else .stk
 |_=>.stk
section
variable {pos:Pos}
theorem PD.to {es:List ab6}{t t':M6}(h:PD X es t)(i:∀v σ H Q,t' v σ H Q->t v σ H Q):PD X es t':=λċ s σ H v u Q I r q=>h ċ s σ H v u Q I r (i _ _ _ _ q)
theorem aw (hN:X.N.Nodup)(hi:X.N[i]? = some x:=by rfl)(hx:MX X.env.scope x:=by first|exact Or.inl rfl|exact Or.inr rfl)(c:G.is i=false:=by rfl)(hf:X.fn x=true\/X.env.scope.names.lookup x=some .local:=by first|exact .inl rfl|exact .inr rfl|assumption):DG X G (.Name x pos) (ba i):=⟨(M7 hN hi hx hf).to λv σ H Q ⟨Z,A,ρ,u,q,r,f⟩=>f _ (q.set c r) λj cj=>by
  have:i≠j:=λz=>by subst z;rw[c] at cj;cases cj
  rw[aaV this]⟩
theorem de:Xt X G [] bT:=⟨M8.to λvs σ H Q θ=>by
 obtain⟨Z,A,ρ,us,q,r,f⟩:=θ;cases us with
 |nil=>exact⟨r,f σ q λ_ _=>rfl⟩
 |cons=>exact f.elim⟩
theorem aL {e:ab6}{es:List ab6}{s:U->Ev->R Ev}{t:List U->Ev->R Ev}(h1:DG X G e s)(h2:Xt X G es t)
  (hs:(acR (e::es) X.env).map (·.2)=assign e X.env::(acR es X.env).map (·.2):=by rfl):Xt X G (e::es) (ay s t):=⟨(Iq h1.un h2.un hs).to λvs σ H Q θ=>by
 obtain⟨Z,A,ρ,us,q,r,f⟩:=θ;unfold ay at f;cases us with
 |nil=>exact f.elim
 |cons u us=>
  obtain⟨v,vr,rfl,r1,r2⟩:=r;dsimp only at f;refine⟨v,vr,rfl,Z,A,ρ,u,q,r1,?_⟩;cases e1:s u ρ with
  |ok η=>
   rw[e1] at f;simp only[R.bind] at f;intro Â q1 o1;refine⟨Z,A,η,us,q1,r2,?_⟩;cases e2:t us η with
   |ok ν=>rw[e2] at f;exact λΖ q2 o2=>f Ζ q2 λi c=>(o2 i c).trans (o1 i c)
   |exc=>rw[e2] at f;exact f.elim
   |stk=>rw[e2] at f;exact f.elim
  |exc=>rw[e1] at f;exact f.elim
  |stk=>rw[e1] at f;exact f.elim⟩
theorem eT {es:List ab6}{t:List U->Ev->R Ev}(hc:X.calm=true)(h:Xt X G es t)(hn:(acR es X.env).length=n:=by rfl)(YW:(acR es X.env).findIdx? (·.1)=none:=by rfl):DG X G (.Tuple es k pos) (bL n t):=⟨(RG hc h.un hn YW).to λv σ H Q θ=>by
 obtain⟨Z,A,ρ,u,q,r,f⟩:=θ;unfold bL at f;cases u with
 |tup us=>
  obtain⟨a,xs,rfl,sq,l,rs⟩:=r;dsimp only at f;by_cases hl:us.length=n
  ·rw[hZ hl] at f;exact⟨a,xs,rfl,iG.of sq,by rw[←rs.length];exact hl,Z,A,ρ,us,q,rs,f⟩
  ·rw[hV hl] at f;exact f.elim
 |_=>exact f.elim⟩
end
def VMr (K:aam)(Z:Pkg)(m:Md)(H:Hp)(u:U)(v:V):Prop:=match m with
 | .S=>Rp K H Z.A0 u v
 | .O=>∃a,v=.ref a/\Z.B a=none/\¬Z.A0 a/\nG K H (λb=>Z.A0 b\/b=a) u a
 | .P=>False
def uH (K:aam)(G:Gm)(Z:Pkg)(m:Md):SR->n9->Prop
 | .nx ε,D=>∀A' ζ H',dh K G Z A' ε ζ H'->D.nx ζ H'
 | .bk ε,D=>∀A' ζ H',dh K G Z A' ε ζ H'->D.bk ζ H'
 | .ct ε,D=>∀A' ζ H',dh K G Z A' ε ζ H'->D.ct ζ H'
 | .rt u ε,D=>∀A' ζ H' v,dh K G Z A' ε ζ H'->VMr K Z m H' u v->D.rt v H'
 | .exc _ _,_=>∀H',(∀a o,Z.B a=some o->H' a=some o)->G.W H'
 | .stk,_=>False
def Ux (K:aam)(G:Gm)(m:Md)(g:Ev->SR):TS:=λD σ H=>∃Z A ρ,dh K G Z A ρ σ H/\uH K G Z m (g ρ) D
structure DS (X:Cx)(G:Gm)(m:Md)(st:adN)(g:Ev->SR):Prop where
 un:PS X st (Ux X.K G m g)
structure C3 (X:Cx)(G:Gm)(m:Md)(st:List adN)(g:Ev->SR):Prop where
 un:wY X st (Ux X.K G m g)
def bU:Ev->SR:=.nx
def aD (g1 g2:Ev->SR):Ev->SR:=λρ=>match g1 ρ with
 | .nx ε=>g2 ε
 |r=>r
def SR.of {α:Type}:R α->(α->SR)->SR
 | .ok a,f=>f a
 |_,_=>.stk
section
variable {m:Md}{α:Type}
theorem uH.of {x:R α}{k:α->SR}{D:n9}(f:uH K G Z m (SR.of x k) D):∃a,x=.ok a/\uH K G Z m (k a) D:=by
 cases x with
 |ok a=>exact⟨a,rfl,f⟩
 |exc=>exact f.elim
 |stk=>exact f.elim
end
section
variable {e a b c:ab6}{W3 rest:List adN}{es:List ab6}{pos p1:Pos}{b1 b2 b3:Bool}{m m1 m2 m3 mr:Md}{g1 g2 g3:Ev->R (U×Ev)}{h1 h2:Ev->R (Bool×Ev)}{ga:Ev->R (List U×Ev)}{s1 s2:Ev->SR}
def bE:C3 X G m [] bU:=⟨EN.to λD σ H ⟨Z,A,ρ,q,f⟩=>f A σ H q⟩
def ar (h:DS X G m st s1):C3 X G m [st] s1:=⟨EO h.un⟩
theorem aj (ha:DS X G m st s1)(hb:C3 X G m rest s2):C3 X G m (st::rest) (aD s1 s2):=⟨(Aw ha.un hb.un).to λD σ H θ=>by
 obtain⟨Z,A,ρ,q,f⟩:=θ;refine⟨Z,A,ρ,q,?_⟩;unfold aD at f;cases e:s1 ρ with
 |nx η=>rw[e] at f;exact λA1 Â H1 q1=>⟨Z,A1,η,q1,f⟩
 |rt=>rw[e] at f;exact f
 |bk=>rw[e] at f;exact f
 |ct=>rw[e] at f;exact f
 |exc=>rw[e] at f;exact f
 |stk=>rw[e] at f;exact f⟩
def jW (g:Ev->R (U×Ev)):Ev->SR:=λρ=>SR.of (g ρ) λx=>.nx x.2
theorem gF (h:DE X G e b1 m1 g1)(hs:adO e none pos.line X.env=pure false:=by rfl):DS X G m (.Expr e pos) (jW g1):=⟨(ER h.un hs).to λD σ H θ=>by
 obtain⟨Z,A,ρ,q,f⟩:=θ;obtain⟨⟨u,η⟩,e1,f⟩:=f.of;refine⟨Z,A,ρ,q,?_⟩;rw[e1];exact λv H1 q1 _ _ _=>f A σ H1 q1⟩
def bx (g:Ev->R (U×Ev)):Ev->SR:=λρ=>SR.of (g ρ) λx=>.rt x.1 x.2
theorem aP (h:DE X G e b1 m1 g1)(hn:m1≠.P:=by decide):DS X G .S (.Return (some e) pos) (bx g1):=⟨(CF h.un).to λD σ H θ=>by
 obtain⟨Z,A,ρ,q,f⟩:=θ;obtain⟨⟨u,η⟩,e1,f⟩:=f.of;refine⟨Z,A,ρ,q,?_⟩;rw[e1];exact λv H1 q1 _ _ vm=>f A σ H1 v q1 ((vm.rp hn).mono q1.sup)⟩
theorem oW (h:DE X G e b1 .O g1):DS X G .O (.Return (some e) pos) (bx g1):=⟨(CF h.un).to λD σ H θ=>by
 obtain⟨Z,A,ρ,q,f⟩:=θ;obtain⟨⟨u,η⟩,e1,f⟩:=f.of;refine⟨Z,A,ρ,q,?_⟩;rw[e1];intro v H1 q1 _ _ vm;obtain⟨a,rfl,na,nb,_,t⟩:=vm;exact f A σ H1 _ q1 ⟨a,rfl,nb,λz=>na (q1.sup a z),t.mono λb z=>z.imp (q1.sup b) id⟩⟩
theorem ub (hm:m≠.P:=by decide)(hi:G.io=true->i≠0)(hN:X.N[i]? = some x:=by rfl)(hv:EM X.env.scope x:=by first|exact Or.inl rfl|exact Or.inr (Or.inl rfl)|exact Or.inr (Or.inr rfl))(hd:(x==("__debug__":Str))=false:=by decide)(nE:(x==("__classdict__":Str))=false:=by decide)(c:G.is i=true:=by rfl):DS X G m (.Return (some (.Name x p1)) pos) (bx (ag i)):=⟨(CF (iV hN hv hd nE)).to λD σ H θ=>by
 obtain⟨Z,A,ρ,q,f⟩:=θ;obtain⟨⟨u,η⟩,e1,f⟩:=f.of;unfold ag at e1;split at e1
 ·rename_i u' hu;cases e1;obtain⟨a,h1,h2,h3,h4,h5⟩:=q.own c hu;have na:¬Z.A0 a:=by
   lia
  refine⟨.ref a,h1,f A σ H _ q ?_⟩;cases m with
  |S=>exact h5.rp q.sup na
  |O=>exact⟨a,rfl,h3,na,h5.mono λb z=>by
    rcases z with z|z
    ·exact q.sup b z
    lia⟩
  |P=>lia
 ·cases e1⟩
def bg (i:Nat)(g:Ev->R (U×Ev)):Ev->SR:=λρ=>SR.of (g ρ) λx=>.nx (x.2.set i (some x.1))
theorem AR (c:G.is i=false)(hn:m1≠.P)(hi:∀σ H Q,tD X.K G b1 m1 g1 σ H Q->te σ H Q){D:n9}(h:Ux X.K G m (bg i g1) D σ H):Ir te (Ax i) D σ H:=by
 obtain⟨Z,A,ρ,q,f⟩:=h;obtain⟨⟨u,η⟩,e1,f⟩:=f.of;refine hi _ _ _ ⟨Z,A,ρ,q,?_⟩;rw[e1];exact λv H1 q1 _ _ vm=>f A _ H1 (q1.set c (vm.rp hn))
theorem G9 (c:G.is i=true)(h0:G.io=true->i≠0)(hi:∀σ H Q,tD X.K G b1 .O g1 σ H Q->te σ H Q){D:n9}(h:Ux X.K G m (bg i g1) D σ H):Ir te (Ax i) D σ H:=by
 obtain⟨Z,A,ρ,q,f⟩:=h;obtain⟨⟨u,η⟩,e1,f⟩:=f.of;refine hi _ _ _ ⟨Z,A,ρ,q,?_⟩;rw[e1];intro v H1 q1 _ _ vm;obtain⟨a,rfl,na,nb,r,t⟩:=vm;exact f _ _ H1 (q1.setO c h0 na nb r t)
theorem aS (hN:X.N.Nodup)(h:DE X G e b1 m1 g1)(hi:X.N[i]? = some x:=by rfl)(hx:MX X.env.scope x:=by first|exact Or.inl rfl|exact Or.inr rfl)(c:G.is i=false:=by rfl)(hn:m1≠.P:=by decide)(hs:adO e (some (.Name x p1)) pos.line X.env=pure false:=by rfl)(hf:X.fn x=true\/X.env.scope.names.lookup x=some .local:=by first|exact .inl rfl|exact .inr rfl|assumption):DS X G m (.Assign [.Name x p1] e pos) (bg i g1):=⟨(Iv hN hi hx h.un hs hf).to λ_ _ _=>AR c hn λ_ _ _ h=>h⟩
def dD (hN:X.N.Nodup)(h:DE X G e b1 .O g1)(h0:G.io=true->i≠0:=by decide)(hi:X.N[i]? = some x:=by rfl)(hx:MX X.env.scope x:=by first|exact Or.inl rfl|exact Or.inr rfl)(c:G.is i=true:=by rfl)(hs:adO e (some (.Name x p1)) pos.line X.env=pure false:=by rfl)(hf:X.fn x=true\/X.env.scope.names.lookup x=some .local:=by first|exact .inl rfl|exact .inr rfl|assumption):DS X G m (.Assign [.Name x p1] e pos) (bg i g1):=⟨(Iv hN hi hx h.un hs hf).to λ_ _ _=>G9 c h0 λ_ _ _ h=>h⟩
noncomputable def Se (i j:Nat)(ga:Ev->R (List U×Ev)):Ev->SR:=λρ=>SR.of (ga ρ) λx=>match x.1 with
 | [u,w]=>.nx ((x.2.set i (some u)).set j (some w))
 |_=>.stk
theorem Sg {y:Str}{a b:ab6}{px py pt:Pos}{kt k2 pt2}(hc:X.calm=true)(hN:X.N.Nodup)(ha:DA X G [a,b] b1 false ga)(hi:X.N[i]? = some x:=by rfl)(hj:X.N[j]? = some y:=by rfl)(Ac:i≠j:=by decide)(hx:X.env.scope.names.lookup x=some .local:=by rfl)(hy:X.env.scope.names.lookup y=some .local:=by rfl)(ci:G.is i=false:=by rfl)(cj:G.is j=false:=by rfl)(hw:ae6 [.Tuple [.Name x px,.Name y py] kt pt] (.Tuple [a,b] k2 pt2) X.env=pure (some [x,y]):=by rfl)(hs:ae5 [.Tuple [.Name x px,.Name y py] kt pt] (.Tuple [a,b] k2 pt2) pos.line X.env=pure false:=by rfl) :
  DS X G m (.Assign [.Tuple [.Name x px,.Name y py] kt pt] (.Tuple [a,b] k2 pt2) pos) (Se i j ga):=⟨(RI hc hN hi hj Ac hx hy ha.un hw hs).to λD σ H θ=>by
 obtain⟨Z,A,ρ,q,f⟩:=θ;obtain⟨⟨us,η⟩,e1,f⟩:=f.of;refine⟨Z,A,ρ,q,?_⟩;rw[e1];intro vs H1 q1 _ _ vm;dsimp only at f;split at f
 ·have r:=vm.rps;obtain⟨v,vr,rfl,r1,r2⟩:=r;obtain⟨v2,vr2,rfl,r3,r4⟩:=r2;subst r4;exact⟨v,v2,rfl,f A _ H1 ((q1.set ci r1).set cj r3)⟩
 ·exact f.elim⟩
noncomputable def j_ (h:Ev->R (Bool×Ev))(s1 s2:Ev->SR):Ev->SR:=λρ=>SR.of (h ρ) λx=>if x.1=true then s1 x.2 else s2 x.2
theorem cE {c:ab6}{a b:List adN}(hc:DT X G c b1 h1)(ha:C3 X G m a s1)(hb:C3 X G m b s2):DS X G m (.If c a b pos) (j_ h1 s1 s2):=⟨(PB hc.un ha.un hb.un).to λD σ H θ=>by
 obtain⟨Z,A,ρ,q,f⟩:=θ;obtain⟨⟨k,η⟩,e1,f⟩:=f.of;refine⟨Z,A,ρ,q,?_⟩;rw[e1];intro H1 q1 _ _;cases k with
 |true=>exact⟨Z,A,η,q1,f⟩
 |false=>exact⟨Z,A,η,q1,f⟩⟩
noncomputable def l7 (h:Ev->R (Bool×Ev))(s:Ev->SR):Nat->Ev->SR
 |0,_=>.stk
 |n+1,ρ=>SR.of (h ρ) λx=>if x.1=true then match s x.2 with
   | .nx ν=>l7 h s n ν
   | .ct ν=>l7 h s n ν
   | .bk ν=>.nx ν
   |r=>r
  else .nx x.2
theorem Jq (hp:afX (aaX X.prog X.w) X.A X.env X.xe)(hc:DT X G c b1 h1)(hb:C3 X G m body s1):DS X G m (.While c body [] pos) (l7 h1 s1 n):=⟨(Iw hp hc.un hb.un).to λD σ H θ=>by
 obtain⟨Z,A,ρ,q,f⟩:=θ;refine⟨λk σ H=>∃A ρ,dh X.K G Z A ρ σ H/\uH X.K G Z m (l7 h1 s1 k ρ) D,⟨n,A,ρ,q,f⟩,?_⟩;rintro k σ H ⟨A,ρ,q,f⟩;cases k with
 |zero=>exact f.elim
 |succ k=>
  obtain⟨⟨t,η⟩,e1,f⟩:=f.of;refine⟨Z,A,ρ,q,?_⟩;rw[e1];intro H1 q1 _ _;cases t with
  |false=>exact f A σ H1 q1
  |true=>
   refine⟨λσ H=>∃A ρ,dh X.K G Z A ρ σ H/\uH X.K G Z m _ D,λζ H' z=>⟨k,aeX k,z⟩,Z,A,η,q1,?_⟩;cases e2:s1 η with
   |nx ν=>rw[e2] at f;exact λA2 Ζ H2 q2=>⟨A2,ν,q2,f⟩
   |ct ν=>rw[e2] at f;exact λA2 Ζ H2 q2=>⟨A2,ν,q2,f⟩
   |bk ν=>rw[e2] at f;exact f
   |rt=>rw[e2] at f;exact f
   |exc=>rw[e2] at f;exact f
   |stk=>rw[e2] at f;exact f⟩
end
end L2
namespace L2
def Wk (K:aam)(p:Bool)(A:aaL->Prop)(us:List U)(J:It)(H1:Hp):Prop:=us.length<=aaf/\
 ∀H A',(if p=true then aO H1 H else fU A H1 H)->(∀b,A' b->A b\/H1 b=none)->(∀(i:Nat) (u:U),us[i]? = some u->J.go i H/\∀x H',J.yld i H x H'->aO H H'/\Rp K H' A' u x)/\J.stop us.length H
def Xu (K:aam)(G:Gm)(b p:Bool)(gi:Ev->R (List U×Ev)):TI:=λσ H R=>∃Z A ρ,dh K G Z A ρ σ H/\match gi ρ with
 | .ok (us,ε)=>∀J H1,dh K G Z A ε σ H1->fU A H H1->(b=false->ε=ρ/\aO H H1)->Wk K p A us J H1->R J H1
 |_=>False
structure DI (X:Cx)(G:Gm)(tg iter:ab6)(b p:Bool)(gi:Ev->R (List U×Ev)):Prop where
 un:PI X tg iter (Xu X.K G b p gi)
section
variable {e a b c:ab6}{es:List ab6}{pos p1:Pos}{b1 b2 b3:Bool}{m m1 m2 m3 mr:Md}{g1 g2 g3:Ev->R (U×Ev)}{h1 h2:Ev->R (Bool×Ev)}{ga:Ev->R (List U×Ev)}{s1 s2:Ev->SR}
theorem PI.to {t t':TI}(h:PI X tg e t)(i:∀σ H Q,t' σ H Q->t σ H Q):PI X tg e t':=λċ s σ H Q I q=>h ċ s σ H Q I (i _ _ _ q)
theorem PI.or {t t':TI}(h:PI X tg e t)(h':PI X tg e t'):PI X tg e (λσ H R=>t σ H R\/t' σ H R):=λċ s σ H Q I q=>by
 rcases q with q|q
 ·exact h ċ s σ H Q I q
 ·exact h' ċ s σ H Q I q
def wQ:Md->Bool
 | .P=>true
 |_=>false
noncomputable def cP (g:Ev->R (U×Ev)):Ev->R (List U×Ev):=λρ=>(g ρ).bind λx=>match x.1 with
 | .lst us=>.ok (us,x.2)
 | .tup us=>.ok (us,x.2)
 | .scr us=>.ok (us,x.2)
 |_=>.stk
theorem NH (q:dh K G Z A ρ σ H1)(h:yL K G Z m1 A ρ σ H1 (.lst us) v):∃a,v=.ref a/\(∃xs,g_ K H1 a xs)/\Wk K (wQ m1) A us (Xl K a) H1:=by
 have hp:=h.pk;obtain⟨a,xs,rfl,rd,l,rs⟩:=hp;refine⟨a,rfl,⟨xs,g_.of rd⟩,l,λH A' hs ha=>?_⟩;have st:H a=some (.lst xs)/\∀(i:Nat) (u:U),us[i]? = some u->∃x,xs[i]? = some x/\Rp K H A' u x:=by
  cases hm:wQ m1 with
  |true=>
   rw[hm] at hs;refine⟨hs a _ rd,λi u hu=>?_⟩;obtain⟨x,h1,h2⟩:=rs.get hu;exact⟨x,h1,h2.re q.mu (fU.same hs) ha⟩
  |false=>
   rw[hm] at hs;have hn:m1≠.P:=λz=>by subst z;cases hm
   have hr:=h.rp hn;obtain⟨a',Î,e,na,rd',_,rs'⟩:=hr;cases e;refine⟨hs a _ na rd,λi u hu=>?_⟩;obtain⟨x,h1,h2⟩:=rs.get hu;exact⟨x,h1,h2.re q.mu hs ha⟩
 obtain⟨æ,get⟩:=st;refine⟨λi u hu=>?_,⟨xs,g_.of æ,by rw[←rs.length];exact aaq _⟩⟩;obtain⟨x,h1,h2⟩:=get i u hu;refine⟨⟨xs,x,g_.of æ,h1⟩,λy H' yl=>?_⟩;obtain⟨e,yl⟩:=yl;have e2:=yl xs (g_.of æ);rw[h1] at e2;cases e2;subst e;exact⟨aO.refl _,h2⟩
theorem Sh {p:Bool}(q:dh K G Z A ρ σ H1)(h:Pk K H1 A (.tup us) v):∃a,v=.ref a/\(∃xs,iG K H1 a xs)/\Wk K p A us (X6 K a) H1:=by
 obtain⟨a,xs,rfl,sq,l,rs⟩:=h;refine⟨a,rfl,⟨xs,iG.of sq⟩,l,λH A' hs ha=>?_⟩;have ex:fU A H1 H:=by
  grind[fU.same]
 have Ui:iG K H a xs:=iG.of (ex a _ (λz=>by have:=q.mu a z;rw[sq] at this;exact this) sq);refine⟨λi u hu=>?_,⟨xs,Ui,by rw[←rs.length];exact aaq _⟩⟩;obtain⟨x,h1,h2⟩:=rs.get hu;refine⟨⟨xs,x,Ui,h1⟩,λy H' yl=>?_⟩;obtain⟨e,yl⟩:=yl;have e2:=yl xs Ui;rw[h1] at e2;cases e2;subst e;exact⟨aO.refl _,h2.re q.mu ex ha⟩
theorem Si {p:Bool}(q:dh K G Z A ρ σ H1)(h:Pk K H1 A (.scr us) v):∃a,v=.ref a/\(∃xs,g_ K H1 a xs)/\Wk K p A us (Xl K a) H1:=by
 obtain⟨a,xs,rfl,sq,l,rs⟩:=h;refine⟨a,rfl,⟨xs,sq.sq⟩,l,λH A' hs ha=>?_⟩;have ex:fU A H1 H:=by
  grind[fU.same]
 have Ui:=(sq.to λo y w=>ex a _ (λz=>by have:=q.mu a z;rw[w] at this;exact this) w).sq;refine⟨λi u hu=>?_,⟨xs,Ui,by rw[←rs.length];exact aaq _⟩⟩;obtain⟨x,h1,h2⟩:=rs.get hu;refine⟨⟨xs,x,Ui,h1⟩,λy H' yl=>?_⟩;obtain⟨e,yl⟩:=yl;have e2:=yl xs Ui;rw[h1] at e2;cases e2;subst e;exact⟨aO.refl _,h2.re q.mu ex ha⟩
theorem bH (h:DE X G e b1 m1 g1):DI X G tg e b1 (wQ m1) (cP g1):=⟨((M9 h.un).or (RK h.un)).to λσ H RR θ=>by
 obtain⟨Z,A,ρ,q,f⟩:=θ;unfold cP at f;cases e1:g1 ρ with
 |stk=>rw[e1] at f;exact f.elim
 |exc=>rw[e1] at f;exact f.elim
 |ok y=>
  obtain⟨u,η⟩:=y;rw[e1] at f;cases u with
  |lst us=>
   refine .inl ⟨Z,A,ρ,q,?_⟩;rw[e1];intro v H1 q1 x1 s1 vm;obtain⟨a,e,l,wk⟩:=NH q1 vm;exact⟨a,e,l,f _ H1 q1 x1 s1 wk⟩
  |tup us=>
   refine .inr ⟨Z,A,ρ,q,?_⟩;rw[e1];intro v H1 q1 x1 s1 vm;obtain⟨a,e,l,wk⟩:=Sh q1 vm.pk;exact⟨a,e,l,f _ H1 q1 x1 s1 wk⟩
  |scr us=>
   refine .inl ⟨Z,A,ρ,q,?_⟩;rw[e1];intro v H1 q1 x1 s1 vm;obtain⟨a,e,l,wk⟩:=Si q1 vm.pk;exact⟨a,e,l,f _ H1 q1 x1 s1 wk⟩
  |_=>exact f.elim⟩
def bu (lo:Int)(n:Nat):List U:=(aax n).map λi=>.int (lo+(i:Nat))
theorem Jr {lo:Int}{p:Bool}(h:n<=aaf):Wk K p A (bu lo n) (Xm lo n) H1:=by
 have hl:(bu lo n).length=n:=by unfold bu;rw[aaa,aaJ]
 refine⟨by rw[hl];exact h,λH A' _ _=>⟨λi u hu=>?_,by rw[hl];exact aaq _⟩⟩;unfold bu at hu;rw[aar] at hu;cases e:(aax n)[i]? with
 |none=>rw[e] at hu;cases hu
 |some j=>
  rw[e] at hu;obtain⟨l1,l2⟩:=aap.mp e;rw[aaJ] at l1;rw[adj] at l2;subst l2;cases hu;refine⟨l1,λx H' y=>?_⟩;obtain⟨rfl,rfl⟩:=y;exact⟨aO.refl _,dJ⟩
def gG (ga:Ev->R (List U×Ev)):Ev->R (List U×Ev):=λρ=>(ga ρ).bind λx=>match x.1 with
 | [.int j]=>if -1000000<=j/\j<=1000000 then .ok (bu 0 j.toNat,x.2) else .stk
 |_=>.stk
theorem cq {a:ab6}(ha:DA X G [a] b1 false ga)(hm:X.mg "range"=none)(hg:Gl X "range":=by rfl)(hs:aaN [a] X.env=[(false,adM a X.env)]:=by rfl):DI X G tg (.Call (.Name "range" p1) [a] [] pos) b1 false (gG ga):=⟨(GQ hg hm ha.un hs).to λσ H RR θ=>by
 obtain⟨Z,A,ρ,q,f⟩:=θ;unfold gG at f;cases e1:ga ρ with
 |stk=>rw[e1] at f;exact f.elim
 |exc=>rw[e1] at f;exact f.elim
 |ok y=>
  obtain⟨us,η⟩:=y;rw[e1] at f;dsimp only[L2.R.bind] at f;refine⟨Z,A,ρ,q,?_⟩;rw[e1];intro vs H1 q1 x1 s1 vm;split at f
  ·rename_i ą ε e2;split at e2
   ·rename_i j;split at e2
    ·cases e2;have r:=vm.rps;obtain⟨v,vr,rfl,r1,r2⟩:=r;subst r2;subst r1;exact⟨j,rfl,by lia,by omega,f _ H1 q1 x1 s1 (Jr (by have:aaf=16777216:=rfl;(simp;lia)))⟩
    ·cases e2
   ·cases e2
  lia⟩
noncomputable def dO (sg:U->Ev->R Ev)(s:Ev->SR):List U->Ev->SR
 | [],ρ=>.nx ρ
 |u::us,ρ=>SR.of (sg u ρ) λη=>match s η with
   | .nx ν=>dO sg s us ν
   | .ct ν=>dO sg s us ν
   | .bk ν=>.nx ν
   |r=>r
def iu (gi:Ev->R (List U×Ev))(sg:U->Ev->R Ev)(s:Ev->SR):Ev->SR:=λρ=>SR.of (gi ρ) λx=>dO sg s x.1 x.2
open Classical in
noncomputable def Pkg.lp (Z:Pkg)(A:aaL->Prop)(H:Hp):Pkg:={Z with B:=λb=>if A b/\Z.B b=none then none else H b}
theorem mT {b:aaL}(h1:A b)(h2:Z.B b=none):(Z.lp A H).B b=none:=by
 unfold Pkg.lp;exact hZ ⟨h1,h2⟩
theorem jX {b:aaL}(h:¬(A b/\Z.B b=none)):(Z.lp A H).B b=H b:=by
 unfold Pkg.lp;exact hV h
theorem uI {b:aaL}(h:(Z.lp A H).B b=none):(A b/\Z.B b=none)\/H b=none:=by
 grind[jX]
theorem dh.lp (q:dh K G Z A ρ σ H):dh K G (Z.lp A H) A ρ σ H where
 slot:=λi u h=>by
  obtain⟨v,h1,h2⟩:=q.slot i u h;refine⟨v,h1,?_⟩;by_cases c:G.is i=true
  ·rw[hZ c] at h2 ⊢;obtain⟨a,e1,e2,e3,e4,e5⟩:=h2;exact⟨a,e1,e2,mT e2 e3,e4,e5⟩
  ·rw[hV c] at h2 ⊢;exact h2
 dis:=q.dis
 mu:=q.mu
 sup:=q.sup
 out:=λa h=>(q.out a h).imp id λz=>mT h z
 bas:=λa o h=>by
  grind[mT,jX]
 io0:=q.io0
 len:=q.len
theorem dh.unlp {A':aaL->Prop}{ε:Ev}{ζ:St}(q:dh K G Z A ρ σ H)(q':dh K G (Z.lp A H) A' ε ζ H'):dh K G Z A' ε ζ H':=by
 have sub:∀a,(Z.lp A H).B a=none->Z.B a=none:=λa h=>by
  rcases uI h with z|h
  ·exact z.2
  ·cases e:Z.B a with
   |none=>rfl
   |some o=>rw[q.bas a o e] at h;cases h
 exact {
  slot:=λi u h=>by
   obtain⟨v,h1,h2⟩:=q'.slot i u h;refine⟨v,h1,?_⟩;by_cases c:G.is i=true
   ·rw[hZ c] at h2 ⊢;obtain⟨a,e1,e2,e3,e4,e5⟩:=h2;exact⟨a,e1,e2,sub a e3,e4,e5⟩
   ·rw[hV c] at h2 ⊢;exact h2
  dis:=q'.dis
  mu:=q'.mu
  sup:=q'.sup
  out:=λa h=>(q'.out a h).imp id (sub a)
  bas:=λa o h=>q'.bas a o (by
   rw[jX (λz=>by lia)];exact q.bas a o h)
  io0:=q'.io0
  len:=q'.len}
theorem uH.lp {r:SR}{D:n9}(q:dh K G Z A ρ σ H)(f:uH K G Z m r D):uH K G (Z.lp A H) m r D:=by
 cases r with
 |nx=>exact λA' ζ H' q'=>f A' ζ H' (q.unlp q')
 |bk=>exact λA' ζ H' q'=>f A' ζ H' (q.unlp q')
 |ct=>exact λA' ζ H' q'=>f A' ζ H' (q.unlp q')
 |rt u ε=>
  intro A' ζ H' v q' vm;refine f A' ζ H' v (q.unlp q') ?_;cases m with
  |S=>exact vm
  |P=>exact vm
  |O=>
   obtain⟨a,e,nb,na,t⟩:=vm;refine⟨a,e,?_,na,t⟩;rcases uI nb with z|h
   ·exact z.2
   ·cases e:Z.B a with
    |none=>rfl
    |some o=>rw[q.bas a o e] at h;cases h
 |exc=>exact λH' hb=>f H' λa o h=>hb a o (by
   rw[jX (λz=>by lia)];exact q.bas a o h)
 |stk=>exact f.elim
theorem dk {gi:Ev->R (List U×Ev)}(hp:afX (aaX X.prog X.w) X.A X.env X.xe)(hc:X.calm=true)(hi:DI X G tg iter b1 false gi)(hg:DG X G tg sg)(hb:C3 X G m body s1)(hs:∀x,ab3 iter X.env x=pure x:=by intro _;rfl):DS X G m (.For tg iter body [] pos) (iu gi sg s1):=⟨(E2 hp hc hi.un hg.un hb.un hs).to λD σ H θ=>by
 obtain⟨Z,A,ρ,q,f⟩:=θ;obtain⟨⟨us,η⟩,e1,f⟩:=f.of;refine⟨Z,A,ρ,q,?_⟩;rw[e1];intro J H1 q1 x1 Cs wk;obtain⟨hz,wk⟩:=wk;refine⟨λi k σ H=>i+k=us.length/\∃A' ε,dh X.K G _ A' ε σ H/\uH X.K G _ m (dO sg s1 (us.drop i) ε) D,⟨us.length,by lia,A,η,q1.lp,by exact f.lp q1⟩,?_⟩;rintro i k σ H ⟨hk,A',ε,q',f'⟩;have ex:fU A H1 H:=λb o nb z=>q'.bas b o (by
  rw[jX (λy=>nb y.1)];exact z)
 have nw:∀b,A' b->A b\/H1 b=none:=λb z=>by
  rcases q'.out b z with y|y
  ·exact .inl (q1.sup b y)
  ·rcases uI y with w|h
   ·exact .inl w.1
   ·exact .inr h
 obtain⟨w1,w2⟩:=wk H A' (by exact ex) nw;by_cases xv:i<us.length
 ·have eu:=aad xv;obtain⟨go,yl⟩:=w1 i _ eu;rw[abv xv] at f';obtain⟨ν,e2,f2⟩:=f'.of;refine .inr ⟨go,λσ H=>∃A' ε,dh X.K G _ A' ε σ H/\uH X.K G _ m _ D,λζ H' z=>⟨k-1,by lia,by lia,z⟩,λx H' y=>?_⟩;obtain⟨sm,rp⟩:=yl x H' y;refine⟨Z.lp A H1,A',ε,us[i],q'.same sm,rp,?_⟩;rw[e2];intro Ζ q2 _;refine⟨Z.lp A H1,A',ν,q2,?_⟩;cases e3:s1 ν with
  |nx Ω=>rw[e3] at f2;exact λA3 Ο H3 q3=>⟨A3,Ω,q3,f2⟩
  |ct Ω=>rw[e3] at f2;exact λA3 Ο H3 q3=>⟨A3,Ω,q3,f2⟩
  |bk Ω=>rw[e3] at f2;exact f2
  |rt=>rw[e3] at f2;exact f2
  |exc=>rw[e3] at f2;exact f2
  |stk=>rw[e3] at f2;exact f2
 ·have e:i=us.length:=by lia
  subst e;rw[ac8] at f';exact .inl ⟨w2,f' A' σ H q'⟩⟩
end
end L2
namespace L2
noncomputable def kA (js:List (Option Nat))(ρ:Ev):Ev:=js.map λo=>match o with
 |none=>none
 |some j=>match ρ[j]? with
  |some v=>v
  |none=>none
noncomputable def wR (G:Gm)(js:List (Option Nat)):Gm:=⟨js.map λo=>match o with
 |none=>false
 |some j=>G.is j,false,λ_=>False⟩
noncomputable def qy:List (Option Nat)->Bool
 | []=>true
 |none::r=>qy r
 |some j::r=> !(r.contains (some j))&&qy r
theorem uJ:∀{js:List (Option Nat)} {i k j:Nat},qy js=true->js[i]? = some (some j)->js[k]? = some (some j)->i=k
 | [],_,_,_,_,h,_=>by simp at h
 |none::r,i,k,j,ok,h1,h2=>by
  unfold qy at ok;cases i with
  |zero=>simp at h1
  |succ i=>
   cases k with
   |zero=>simp at h2
   |succ k=>exact congrArg _ (uJ ok (by simpa using h1) (by simpa using h2))
 |some j'::r,i,k,j,ok,h1,h2=>by
  unfold qy at ok;rw[aaC] at ok;have nm:∀n ,r[n]? ≠ some _:=λn h=>by
   have:=abq h;simp at ok;exact ok.1 this
  cases i with
  |zero=>
   grind
  |succ i=>
   cases k with
   |zero=>simp_all
   |succ k=>exact congrArg _ (uJ ok.2 (by simpa using h1) (by simpa using h2))
theorem oX (h:(kA js ρ)[i]? = some (some u)):∃j,js[i]? = some (some j)/\ρ[j]? = some (some u):=by
 unfold kA at h;rw[aar] at h;cases e:js[i]? with
 |none=>rw[e] at h;cases h
 |some o=>
  rw[e] at h;cases o with
  |none=>cases h
  |some j=>
   refine⟨j,rfl,?_⟩;have h:=aaP h;dsimp only at h;split at h
   ·rename_i v hv;rw[hv,h]
   ·cases h
theorem oY (h:js[i]? = some (some j))(hv:σ[j]? = some (some v)):(sel js σ)[i]? = some (some v):=by
 unfold sel;rw[aar,h];dsimp only[Option.map];rw[hv]
theorem uK (h:js[i]? = some (some j)):(wR G js).is i=G.is j:=by
 unfold wR Gm.is;rw[List.getD,aar,h];rfl
theorem E4 (js:List (Option Nat))(ρ:Ev)(σ:St):(kA js ρ).length=(sel js σ).length:=by
 unfold kA sel;rw[aaa,aaa]
section
variable {Δ:Ev}
theorem E5 (q:dh K G Z A ρ σ H)(ok:qy js=true):dh K (wR G js) ⟨λ_=>False,λ_=>none,0⟩ A (kA js ρ) (sel js σ) H where
 slot:=λi u h=>by
  obtain⟨j,h1,h2⟩:=oX h;obtain⟨v,h3,h4⟩:=q.slot j u h2;refine⟨v,oY h1 h3,?_⟩;rw[uK h1];grind
 dis:=λi k u w a ci ck ne hi hk si sk=>by
  obtain⟨j,h1,h2⟩:=oX hi;obtain⟨j',WY,Uh⟩:=oX hk;rw[uK h1] at ci;rw[uK WY] at ck;obtain⟨b,e1,_⟩:=q.own ci h2;obtain⟨b',Cu,_⟩:=q.own ck Uh;rw[oY h1 e1] at si;rw[oY WY Cu] at sk;cases si;cases sk;exact q.dis j j' u w a ci ck (λz=>ne (by grind[uJ])) h2 Uh e1 Cu
 mu:=q.mu
 sup:=λ_ h=>h.elim
 out:=λ_ _=>.inr rfl
 bas:=λ_ _ h=>by cases h
 io0:=λh=>by cases h
 len:=E4 js ρ σ
def NI (G:Gm)(js:List (Option Nat))(ρ:Ev)(σ:St)(a:aaL):Prop:=∃(i j:Nat) (u:U),js[i]? = some (some j)/\G.is j=true/\ρ[j]? = some (some u)/\σ[j]? = some (some (.ref a))
open Classical in
noncomputable def Sj (G:Gm)(js:List (Option Nat))(A:aaL->Prop)(ρ:Ev)(σ:St)(H:Hp):Pkg:=⟨λa=>A a/\¬NI G js ρ σ a,λa=>if NI G js ρ σ a then none else H a,0⟩
theorem uL (h:NI G js ρ σ a):(Sj G js A ρ σ H).B a=none:=by
 unfold Sj;exact hZ h
theorem oZ (h:¬NI G js ρ σ a):(Sj G js A ρ σ H).B a=H a:=by
 unfold Sj;exact hV h
theorem Sk (q:dh K G Z A ρ σ H)(ok:qy js=true):dh K (wR G js) (Sj G js A ρ σ H) A (kA js ρ) (sel js σ) H where
 slot:=λi u h=>by
  obtain⟨j,h1,h2⟩:=oX h;obtain⟨v,h3,h4⟩:=q.slot j u h2;refine⟨v,oY h1 h3,?_⟩;rw[uK h1];by_cases c:G.is j=true
  ·rw[hZ c] at h4 ⊢;obtain⟨a,e1,e2,_,_,e5⟩:=h4;subst e1;have cp:NI G js ρ σ a:=⟨i,j,u,h1,c,h2,h3⟩;exact⟨a,rfl,e2,uL cp,.inl λz=>z.2 cp,e5⟩
  ·rw[hV c] at h4 ⊢;exact h4
 dis:=(E5 q ok).dis
 mu:=q.mu
 sup:=λ_ h=>h.1
 out:=λa h=>by
  by_cases c:NI G js ρ σ a
  ·exact .inr (uL c)
  ·exact .inl ⟨h,c⟩
 bas:=λa o h=>by
  grind[NI,uL,oZ]
 io0:=λh=>by cases h
 len:=E4 js ρ σ
noncomputable def l8:List (Option Nat)->Nat->Option Nat
 | [],_=>none
 |o::r,j=>if o=some j then some 0 else (l8 r j).map (·+1)
theorem xN:∀{js:List (Option Nat)} {i j:Nat},l8 js j=some i->js[i]? = some (some j)
 | [],_,_,h=>by cases h
 |o::r,i,j,h=>by
  unfold l8 at h;split at h
  ·rename_i e;cases h;rw[e];rfl
  ·cases e:l8 r j with
   |none=>grind
   |some k=>
    rw[e] at h;cases h;rw[ab9];exact xN e
theorem uM:∀{js:List (Option Nat)} {i j:Nat},l8 js j=none->js[i]? ≠ some (some j)
 | [],_,_,_=>by simp
 |o::r,i,j,h=>by
  unfold l8 at h;split at h
  ·cases h
  ·rename_i ne;cases e:l8 r j with
   |some k=>grind
   |none=>
    cases i with
    |zero=>intro z;exact ne (aaP z)
    |succ i=>rw[ab9];exact uM e
def wb (G:Gm)(js:List (Option Nat))(Δ ρ:Ev):Ev:=ρ.mapIdx λj x=>if (G.is j&&x.isSome)=true then (match l8 js j with
 |some i=>(Δ[i]?).getD none
 |none=>x) else x
theorem C4 (h:(wb G js Δ ρ)[j]? = some (some u)):∃u0,ρ[j]? = some (some u0)/\((G.is j=true/\∃i,l8 js j=some i/\Δ[i]? = some (some u))\/(u0=u/\(G.is j=false\/l8 js j=none))):=by
 unfold wb at h;rw[List.getElem?_mapIdx] at h;cases e:ρ[j]? with
 |none=>rw[e] at h;cases h
 |some x=>
  rw[e] at h;have h:=aaP h;cases x with
  |none=>simp at h
  |some u0=>
   grind
theorem dh.wb {É:St}(q:dh K G Z A ρ σ H)(ok:qy js=true)(q':dh K (wR G js) (Sj G js A ρ σ H) A Δ É H')(ho:∀i,(wR G js).is i=true->É[i]? = (sel js σ)[i]?):dh K G Z A (L2.wb G js Δ ρ) σ H'/\fU A H H':=by
 have WZ:∀a,NI G js ρ σ a->A a/\Z.B a=none:=λa θ=>by
  obtain⟨i,j,u,h1,h2,h3,h4⟩:=θ;obtain⟨b,e1,e2,e3,_⟩:=q.own h2 h3;lia
 have ex:fU A H H':=λb o nb z=>q'.bas b o (by rw[oZ λc=>nb (WZ b c).1];exact z);refine⟨{
  slot:=λj u h=>?_
  dis:=λi k u w a ci ck ne hi hk si sk=>by
   obtain⟨u1,h1,_⟩:=C4 hi;obtain⟨u2,h2,_⟩:=C4 hk;exact q.dis i k u1 u2 a ci ck ne h1 h2 si sk
  mu:=q'.mu
  sup:=q.sup
  out:=q.out
  bas:=λa o h=>q'.bas a o (by
   rw[oZ λc=>by rw[(WZ a c).2] at h;cases h];exact q.bas a o h)
  io0:=q.io0
  len:=by unfold L2.wb;rw[List.length_mapIdx];exact q.len},ex⟩
 obtain⟨u0,h0,hh⟩:=C4 h;rcases hh with⟨c,i,hi,hu⟩|⟨rfl,hc⟩
 ·have hj:=xN hi;obtain⟨a,e1,e2,e3,e4,_⟩:=q.own c h0;have ci:(wR G js).is i=true:=by rw[uK hj];exact c
  obtain⟨a',k1,k2,_,_,k5⟩:=q'.own ci hu;rw[ho i ci,oY hj e1] at k1;cases k1;refine⟨.ref a,e1,?_⟩;rw[hZ c];exact⟨a,rfl,e2,e3,e4,k5⟩
 ·obtain⟨v,h1,h2⟩:=q.slot j u0 h0;refine⟨v,h1,?_⟩;by_cases c:G.is j=true
  ·rw[hZ c] at h2 ⊢;obtain⟨a,rfl,e2,e3,e4,e5⟩:=h2;have hc:l8 js j=none:=by
    lia
   have nc:¬NI G js ρ σ a:=λθ=>by
    obtain⟨i,j',u,z1,z2,z3,z4⟩:=θ;have ne:j≠j':=λz=>by subst z;exact uM hc z1
    exact q.dis j j' u0 u a c z2 ne h0 z3 h1 z4
   exact⟨a,rfl,e2,e3,e4,e5.re q.mu ex (λb z=>.inl z) λo z=>q'.bas a o (by rw[oZ nc];exact z)⟩
  ·rw[hV c] at h2 ⊢;exact h2.re q.mu ex λb z=>.inl z
end
noncomputable def G_ (f:U->R (Option U)):List U->R (List U)
 | []=>.ok []
 |u::us=>(f u).bind λo=>(G_ f us).bind λr=>.ok (match o with
  |some y=>y::r
  |none=>r)
def nI (js:List (Option Nat))(sg:U->Ev->R Ev)(gt:Ev->R (Bool×Ev))(ge:Ev->R (U×Ev))(ρ:Ev)(u:U):R (Option U):=
 (sg u (kA js ρ)).bind λΔ=>(gt Δ).bind λc=>if c.1=true then (ge Δ).bind λy=>.ok (some y.1) else .ok none
def eU (gi:Ev->R (List U×Ev))(js:List (Option Nat))(sg:U->Ev->R Ev)(gt:Ev->R (Bool×Ev))(ge:Ev->R (U×Ev)):Ev->R (U×Ev):=λρ=>
 (gi ρ).bind λx=>(G_ (nI js sg gt ge x.2) x.1).bind λys=>.ok (.lst ys,x.2)
def sX (G:Gm)(js:List (Option Nat))(sg:U->Ev->R Ev)(gt:Ev->R (Bool×Ev))(ge:Ev->R (U×Ev)):List U->Ev->R (List U×Ev)
 | [],ρ=>.ok ([],ρ)
 |u::us,ρ=>(sg u (kA js ρ)).bind λΔ=>(gt Δ).bind λc=>if c.1=true then (ge c.2).bind λy=>(sX G js sg gt ge us (wb G js y.2 ρ)).bind λr=>.ok (y.1::r.1,r.2) else sX G js sg gt ge us (wb G js c.2 ρ)
def C5 (G:Gm)(gi:Ev->R (List U×Ev))(js:List (Option Nat))(sg:U->Ev->R Ev)(gt:Ev->R (Bool×Ev))(ge:Ev->R (U×Ev)):Ev->R (U×Ev):=λρ=>
 (gi ρ).bind λx=>(sX G js sg gt ge x.1 x.2).bind λy=>.ok (.lst y.1,y.2)
theorem R.bind_ok {α β:Type}{x:R α}{k:α->R β}{b:β}(h:x.bind k=.ok b):∃a,x=.ok a/\k a=.ok b:=by
 cases x with
 |ok a=>exact⟨a,rfl,h⟩
 |exc=>cases h
 |stk=>cases h
section
variable {e:ab6}{pos:Pos}{b1 b2 b3 p:Bool}{m me:Md}{gi:Ev->R (List U×Ev)}{gt:Ev->R (Bool×Ev)}{ge:Ev->R (U×Ev)}
theorem AS (ok:qy js=true)(hn:me≠.P){Q:VK}(h:tD X.K G b1 .O (eU gi js sg gt ge) σ H Q) :
  Xr (Xu X.K G b1 p gi) js (λ_=>Yn X.K (wR G js) sg) (λ_=>Ii X.K (wR G js) false gt) (λ_=>tD X.K (wR G js) false me ge) σ H Q:=by
 obtain⟨Z,A,ρ,q,f⟩:=h;obtain⟨⟨us,η⟩,e1,f⟩:=f.bind;obtain⟨all,e2,f⟩:=f.bind;refine⟨Z,A,ρ,q,?_⟩;rw[e1];intro J H1 q1 x1 s1 ⟨hz,wk⟩ Y;refine⟨λi k ys H2=>i+k=us.length/\aO H1 H2/\∃done rest,G_ _ (us.drop i)=.ok rest/\done++rest=all/\aU X.K H2 A done ys/\done.length<=i,
  ⟨us.length,by lia,aO.refl _,[],all,by exact e2,rfl,aU.nil,aaq _⟩,?_⟩
 rintro i k ys H2 ⟨hk,sm,done,rest,e3,e4,rs,hd⟩;have q2:=q1.same sm;obtain⟨w1,w2⟩:=wk H2 A (by split;exact sm;exact fU.same sm) λb z=>.inl z;by_cases xv:i<us.length
 ·have eu:=aad xv;obtain⟨go,yl⟩:=w1 i _ eu;rw[abv xv] at e3;obtain⟨o,e5,e3⟩:=R.bind_ok e3;obtain⟨r,e6,e3⟩:=R.bind_ok e3;obtain⟨Δ,e7,e5⟩:=R.bind_ok e5;obtain⟨⟨c,ß⟩,e8,e5⟩:=R.bind_ok e5;refine .inr ⟨go,by rw[←rs.length];lia,λRl H'=>aO H1 H'/\∃done,done++r=all/\aU X.K H' A done Rl/\done.length<=i+1,λRl H' ⟨z1,dn,z2,z3,z4⟩=>⟨k-1,by lia,by lia,z1,dn,r,e6,z2,z3,z4⟩,λx H3 y=>?_⟩;obtain⟨À,rp⟩:=yl x H3 y;refine⟨_,A,kA js η,us[i],(E5 (q2.same À) ok),rp,?_⟩;rw[e7];intro É q4 _;refine⟨_,A,Δ,q4,?_⟩;rw[e8];intro H5 q5 x5 s5;obtain⟨rfl,Rk⟩:=s5 rfl;cases c with
  |false=>
   cases e5;cases e3;exact⟨(sm.trans À).trans Rk,done,e4,(rs.same À).same Rk,by lia⟩
  |true=>
   obtain⟨⟨y1,ë⟩,e9,e5⟩:=R.bind_ok e5;cases e5;cases e3;refine⟨_,A,ß,q5,?_⟩;rw[e9];intro v H6 q6 x6 s6 vm;obtain⟨rfl,sm6⟩:=s6 rfl;have ü:=À.trans (Rk.trans sm6);exact⟨sm.trans ü,done++[y1],by rw[acg];exact e4,(rs.same ü).append (aU.cons (vm.rp hn) aU.nil),by simp;lia⟩
 ·have e:i=us.length:=by lia
  subst e;rw[ac8] at e3;cases e3;rw[abG] at e4;subst e4;refine .inl ⟨w2,λa na=>?_⟩;have sn:=cD na (.lst ys);exact f _ _ (q2.same sn) ((x1.trans (fU.same sm)).trans (fU.same sn)) (og (og s1 sm) sn) (E3.e q2 sn ⟨a,rfl,na,cI q2.mu rs na (by lia)⟩)
theorem Js (ok:qy js=true)(hn:me≠.P){Q:VK}(h:tD X.K G true .O (C5 G gi js sg gt ge) σ H Q) :
  Xr (Xu X.K G b1 false gi) js (λ_=>Yn X.K (wR G js) sg) (λ_=>Ii X.K (wR G js) b2 gt) (λ_=>tD X.K (wR G js) b3 me ge) σ H Q:=by
 obtain⟨Z,A,ρ,q,f⟩:=h;obtain⟨⟨us,η⟩,e1,f⟩:=f.bind;obtain⟨⟨all,ρe⟩,e2,f⟩:=f.bind;refine⟨Z,A,ρ,q,?_⟩;rw[e1];intro J H1 q1 x1 s1 ⟨hz,wk⟩ Y;dsimp only at e2 f;refine⟨λi k ys H2=>i+k=us.length/\fU A H1 H2/\∃ν done rest,dh X.K G Z A ν σ H2/\sX G js sg gt ge (us.drop i) ν=.ok (rest,ρe)/\done++rest=all/\aU X.K H2 A done ys/\done.length<=i,
  ⟨us.length,by lia,fU.refl,η,[],all,q1,by exact e2,rfl,aU.nil,aaq _⟩,?_⟩
 rintro i k ys H2 ⟨hk,ex,ν,done,rest,q2,e3,e4,rs,hd⟩;obtain⟨w1,w2⟩:=wk H2 A (by exact ex) λb z=>.inl z;by_cases xv:i<us.length
 ·have eu:=aad xv;obtain⟨go,yl⟩:=w1 i _ eu;rw[abv xv] at e3;obtain⟨Δ,e7,e3⟩:=R.bind_ok e3;obtain⟨⟨c,ß⟩,e8,e3⟩:=R.bind_ok e3;refine .inr ⟨go,by rw[←rs.length];lia,λRl H'=>fU A H1 H'/\∃ν done rest,dh X.K G Z A ν σ H'/\sX G js sg gt ge _ ν=.ok _/\done++rest=all/\aU X.K H' A done Rl/\done.length<=i+1,λRl H' z=>⟨k-1,by lia,by lia,z⟩,λx H3 y=>?_⟩;obtain⟨À,rp⟩:=yl x H3 y;have q3:=q2.same À;refine⟨Sj G js A ν σ H3,A,kA js ν,us[i],Sk q3 ok,rp,?_⟩;rw[e7];intro É q4 o4;refine⟨_,A,Δ,q4,?_⟩;rw[e8];intro H5 q5 x5 s5;cases c with
  |false=>
   obtain⟨q6,x6⟩:=q3.wb ok q5 o4;exact⟨ex.trans ((fU.same À).trans x6),_,done,rest,q6,e3,e4,(rs.same À).re q3.mu x6 (λb z=>.inl z),by lia⟩
  |true=>
   obtain⟨⟨y1,ë⟩,e9,e3⟩:=R.bind_ok e3;obtain⟨⟨r,ρr⟩,e10,e3⟩:=R.bind_ok e3;cases e3;refine⟨_,A,ß,q5,?_⟩;rw[e9];intro v H6 q6 x6 s6 vm;obtain⟨q7,x7⟩:=q3.wb ok q6 o4;exact⟨ex.trans ((fU.same À).trans x7),_,done++[y1],r,q7,e10,by rw[acg];exact e4,((rs.same À).re q3.mu x7 (λb z=>.inl z)).append (aU.cons (vm.rp hn) aU.nil),by simp;lia⟩
 ·have e:i=us.length:=by lia
  subst e;rw[ac8] at e3;cases e3;rw[abG] at e4;subst e4;refine .inl ⟨w2,λa na=>?_⟩;have sn:=cD na (.lst ys);exact f _ _ (q2.same sn) ((x1.trans ex).trans (fU.same sn)) (λz=>nomatch z) (E3.e q2 sn ⟨a,rfl,na,cI q2.mu rs na (by lia)⟩)
structure Jt (X:Cx)(G:Gm)(wW:List ab6)(b:Bool)(h:Ev->R (Bool×Ev)):Prop where
 un:G2 X wW (Ii X.K G b h)
def bO:Ev->R (Bool×Ev):=λρ=>.ok (true,ρ)
def aV:Jt X G [] false bO:=⟨λċ s σ H Q I ⟨Z,A,ρ,q,f⟩=>IT ċ s σ H Q I (f H q fU.refl λ_=>⟨rfl,aO.refl _⟩)⟩
def Ju {h:Ev->R (Bool×Ev)}(hc:DT X G e b1 h):Jt X G [e] b1 h:=⟨IU hc.un⟩
variable {jR lW:Pos}
end
end L2
namespace L2
def gz (n:Nat)(us:List U):Ev:=us.map some++aa_ (n-us.length) none
def cZ (m:Md)(n:Nat)(s:Ev->SR):List U->R U:=λus=>match s (gz n us) with
 | .rt u _=>.ok u
 | .nx _=>if m=.S then .ok .non else .stk
 | .exc c u=>.exc c u
 |_=>.stk
def C6 (n:Nat)(s:Ev->SR):List U->R (U×U):=λus=>match s (gz n us) with
 | .rt u ρ=>match ρ[0]? with
  |some (some w)=>.ok (u,w)
  |_=>.stk
 | .nx ρ=>match ρ[0]? with
  |some (some w)=>.ok (.non,w)
  |_=>.stk
 | .exc c u=>.exc c u
 |_=>.stk
theorem o8 (h:(gz n us)[i]? = some (some u)):us[i]? = some u:=by
 unfold gz at h;by_cases c:i<(us.map some).length
 ·rw[abZ c,aar] at h;cases e:us[i]? with
  |none=>rw[e] at h;cases h
  |some w=>rw[e] at h;simp at h;rw[h]
 ·rw[ace (by lia),aee] at h;split at h
  ·cases h
  ·cases h
theorem mU (h:vs[i]? = some v):(aeV N vs)[i]? = some (some v):=by
 unfold aeV;have c:i<(vs.map some).length:=by rw[aaa];exact (aap.mp h).1
 rw[abZ c,aar,h];rfl
theorem E6 (h:us.length=vs.length):(gz N.length us).length=(aeV N vs).length:=by
 unfold gz aeV;rw[aay,aay,aaa,aaa,acM,acM,h]
section
variable {base:ac5}
theorem yP (G:Gm)(m:Md)(s:Ev->SR)(MU:G.io=false)(tV:∀i,i<ps.length->G.is i=false)(jJ:∀(f:aaL) (cY:aao) (A:abd) (Č:List Env) (s0:aaE) (H:Hp) (E:XK),gD k (A.deeper (afv x (ao st) s0.heap.objs.size f cY))->
   C3 (sT AA P w K mg base N x (ao st) f cY A Č s0 H E).nox G m (c_ st) s) :
  (∀vs H Q E,fh K ps.length (cZ m N.length s) m vs H Q E->vs.length=ps.length)/\∀(f:aaL) (cY:aao) (A:abd) (Č:List Env) (s0:aaE) (H:Hp) (vs:List V) (Q:VK) (E:XK),gD k (A.deeper (afv x (ao st) s0.heap.objs.size f cY))->fh K ps.length (cZ m N.length s) m vs H Q E->
   ∃t,wY (sT AA P w K mg base N x (ao st) f cY A Č s0 H E).nox (c_ st) t/\t {nx:=λ_ H'=>Q .non H',rt:=Q} (aeV N vs) H:=by
 have hl:∀(us:List U) (A:aaL->Prop) (H:Hp) (Q:VK),Vq K m A H (C0 ps.length (cZ m N.length s) us) Q->us.length=ps.length:=λus A H Q h=>by
  unfold C0 at h;split at h
  ·assumption
  ·exact h.elim
 refine⟨λvs H Q E ⟨us,A,r,_,h⟩=>by rw[←r.length];exact hl us A H Q h,λf cY A Č s0 H vs Q E hr ⟨us,A0,r,mu,h⟩=>⟨_,(jJ f cY A Č s0 H E hr).un,?_⟩⟩;have l:=hl us A0 H Q h;unfold C0 at h;rw[hZ l] at h;refine⟨⟨A0,H,0⟩,A0,gz N.length us,?_,?_⟩
 ·exact {
   slot:=λi u hu=>by
    have hu:=o8 hu;obtain⟨v,h1,h2⟩:=r.get hu;refine⟨v,mU h1,?_⟩;rw[hV (by rw[tV i (by rw[←l];exact (aap.mp hu).1)];exact aaB)];exact h2
   dis:=λi j u w a ci cj ne hi hj si sj=>by
    rw[tV i (by rw[←l];exact (aap.mp (o8 hi)).1)] at ci;cases ci
   mu:=mu
   sup:=λa h=>h
   out:=λa h=>.inl h
   bas:=λa o h=>h
   io0:=λh=>by lia
   len:=E6 r.length}
 ·unfold cZ at h;cases e:s _ with
  |nx ε=>
   rw[e] at h;dsimp only at h;intro A' ζ H' q;split at h
   ·rename_i hm;subst hm;exact h _ H' q.bas (show Rp K H' A0 .non .non from uF)
   ·exact h.elim
  |rt u ε=>
   rw[e] at h;intro A' ζ H' v q vm;refine h v H' q.bas ?_;cases m with
   |S=>exact vm
   |P=>exact vm.elim
   |O=>
    obtain⟨a,e1,e2,e3,e4⟩:=vm;exact⟨a,e1,e2,e4⟩
  |bk=>rw[e] at h;exact h.elim
  |ct=>rw[e] at h;exact h.elim
  |exc=>rw[e] at h;exact h.elim
  |stk=>rw[e] at h;exact h.elim
theorem Df.fnD (G:Gm)(m:Md)(s:Ev->SR)(d:Df K mg x st)(S:aI N ps (ao st))(hb:∀(kV qk pm:aao) (an:Option aaL) (cY ct:aao) (us:List aao),us.length=ps.length->bindArgs (acb x x (gE st) (c_ st) (ao st) .none kV qk pm an cY ct) ⟨us,[]⟩=pure (ps.zip us))(MU:G.io=false)(tV:∀i,i<ps.length->G.is i=false)(jJ:∀(f:aaL) (cY:aao) (A:abd) (Č:List Env) (s0:aaE) (H:Hp) (E:XK),gD k (A.deeper (afv x (ao st) s0.heap.objs.size f cY))->
   C3 (sT AA P w K mg base N x (ao st) f cY A Č s0 H E).nox G m (c_ st) s):Fn P w K mg base x (k+1) ps (fh K ps.length (cZ m N.length s) m):=
 d.fn S hb (yP G m s MU tV jJ).1 (yP G m s MU tV jJ).2
theorem MM.okD (G:Gm)(m:Md)(s:Ev->SR)(F:MM K x x st f fd)(S:aI N ps (ao st))(MU:G.io=false)(tV:∀i,i<ps.length->G.is i=false)(jJ:∀(f:aaL) (cY:aao) (A:abd) (Č:List Env) (s0:aaE) (H:Hp) (E:XK),gD k (A.deeper (afv x (ao st) s0.heap.objs.size f cY))->
   C3 (sT AA P w K mg base N x (ao st) f cY A Č s0 H E).nox G m (c_ st) s):ny P w K mg base AA (k+1) f fd ps (fh K ps.length (cZ m N.length s) m):=
 F.ok S (yP G m s MU tV jJ).1 ((yP G m s MU tV jJ).2 f)
def AU (K:aam):Sp:=λvs H Q _=>∃(a:aaL) (ns:List Int),vs=[.ref a]/\Nz K H a (ns.map V.int)/\ns.length<=63/\∀H',Q (.bl true) H'
theorem Sl (hO:Np H)(h:g_ K H a xs):Nz K H a xs:=by
 rcases h with (h|h)|h
 ·rcases hO a with z|⟨o,ys,z⟩
  ·lia
  lia
 ·exact .inl h
 ·exact .inr h
theorem AV {H:Hp}{A:aaL->Prop}:∀(ns:List Int),aU K H A (ns.map .int) (ns.map V.int)
 | []=>aU.nil
 |n::ns=>aU.cons dJ (AV ns)
theorem Sm {f:List U->R U}{fa:aaL}(F:ny P w K mg base AA k fa fd ["script"] (fh K 1 f .S))(h:∀ns:List Int,ns.length<=63->f [.scr (ns.map .int)]=.ok (.bl true)):ny P w K mg base AA k fa fd ["script"] (AU K):=by
 refine F.imp λvs H Q E ⟨a,ns,e,sc,l,q⟩=>?_;subst e;have hl:(ns.map U.int).length<=aaf:=by rw[aaa];have:aaf=16777216:=rfl;lia
 refine⟨[.scr (ns.map .int)],λ_=>False,aU.cons ?_ aU.nil,λ_ h=>h.elim,?_⟩
 ·exact⟨a,_,rfl,sc,hl,AV ns⟩
 ·have e:C0 1 f [.scr _]=.ok _:=(hZ rfl).trans (h ns l);rw[e];intro v H' sm vm;have vm:=vm;subst vm;exact q H'
theorem Df.fnI (G:Gm)(s:Ev->SR)(d:Df K mg x st)(S:aI N ps (ao st))(hb:∀(kV qk pm:aao) (an:Option aaL) (cY ct:aao) (us:List aao),us.length=ps.length->bindArgs (acb x x (gE st) (c_ st) (ao st) .none kV qk pm an cY ct) ⟨us,[]⟩=pure (ps.zip us))(MU:G.io=true)(h0:G.is 0=true)(tV:∀i,i<ps.length->i≠0->G.is i=false)(jJ:∀(f:aaL) (cY:aao) (A:abd) (Č:List Env) (s0:aaE) (H:Hp) (E:XK),gD k (A.deeper (afv x (ao st) s0.heap.objs.size f cY))->
   C3 (sT AA P w K mg base N x (ao st) f cY A Č s0 H E).nox G .S (c_ st) s):Fn P w K mg base x (k+1) ps (Jm K ps.length (C6 N.length s)):=by
 refine d.fn S hb ?_ ?_
 ·rintro vs H Q E ⟨u0,us,a0,Õ,A,rfl,_,_,r,_,h⟩;unfold C0 at h;split at h
  ·rename_i e;split at e
   ·rename_i l;rw[aaw,←r.length,←l];rfl
   ·cases e
  lia
 ·rintro f cY A Č s0 H vs Q E hr ⟨u0,us,a0,Õ,A0,rfl,ha,t0,r,mu,h⟩;refine⟨_,(jJ f cY A Č s0 H E hr).un,?_⟩;have l:(u0::us).length=ps.length:=by
   unfold C0 at h;by_cases c:(u0::us).length=ps.length
   ·exact c
   ·rw[hV c] at h;exact h.elim
  unfold C0 at h;rw[hZ l] at h
  let Z:Pkg:=⟨A0,λb=>if b=a0 then none else H b,a0⟩
  have zb:=λb o nb z=>by
   show (if b=a0 then none else H b)=some o;rw[hV nb];exact z
  have rel:dh K G Z A0 (gz N.length (u0::us)) _ H:={
   slot:=λi u hu=>by
    have hu:=o8 hu;cases i with
    |zero=>
     simp at hu;subst hu;refine⟨.ref a0,mU (by simp),?_⟩;rw[hZ h0];exact⟨a0,rfl,ha,by show (if a0=a0 then none else H a0)=none;rw[hZ rfl],.inr ⟨MU,rfl⟩,t0⟩
    |succ i=>
     have hl:=(aap.mp hu).1;obtain⟨v,h1,h2⟩:=r.get hu;simp_all[mU,hV,aaB]
   dis:=λi j u w a ci cj ne hi hj si sj=>by
    have hi:=(aap.mp (o8 hi)).1;have hj:=(aap.mp (o8 hj)).1;grind
   mu:=mu
   sup:=λa h=>h
   out:=λa h=>.inl h
   bas:=λa o h=>by
    lia
   io0:=λ_=>⟨mU (vs:=.ref a0::Õ) rfl,h0⟩
   len:=E6 (by rw[aaw,aaw,r.length])}
  have fin:∀(A':aaL->Prop) (ε:Ev) (ζ:St) (H':Hp) (w:U),dh K G Z A' ε ζ H'->ε[0]? = some (some w)->(∀b o,b≠a0->H b=some o->H' b=some o)/\nG K H' A0 w a0:=λA' ε ζ H' w q hw=>by
   obtain⟨a,e1,e2,e3,e4,e5⟩:=q.own h0 hw;rw[(q.io0 MU).1] at e1;cases e1;exact⟨λb o nb z=>q.bas b o (zb b o nb z),e5.mono q.sup⟩
  refine⟨Z,A0,_,rel,?_⟩;unfold C6 at h;cases e:s _ with
  |nx ε=>
   rw[e] at h;dsimp only at h;intro A' ζ H' q;split at h
   ·rename_i hm;split at hm
    ·rename_i w hw;cases hm;obtain⟨z1,z2⟩:=fin A' ε ζ H' _ q hw;exact h _ H' z1 z2 uF
    ·cases hm
   lia
  |rt u ε=>
   rw[e] at h;dsimp only at h;intro A' ζ H' v q vm;split at h
   ·rename_i hm;split at hm
    ·rename_i w hw;cases hm;obtain⟨z1,z2⟩:=fin A' ε ζ H' _ q hw;exact h _ H' z1 z2 vm
    ·cases hm
   lia
  |bk=>rw[e] at h;exact h.elim
  |ct=>rw[e] at h;exact h.elim
  |exc=>rw[e] at h;exact h.elim
  |stk=>rw[e] at h;exact h.elim
end
section
variable {e e2:ab6}{pos p1 p2:Pos}{y:Str}{b1 b2:Bool}{m m1 m2:Md}{g1 g2:Ev->R (U×Ev)}
def rH (i:Nat)(gv gk:Ev->R (U×Ev)):Ev->SR:=λρ=>SR.of (gv ρ) λx=>if live x.2 i=true then SR.of (gk x.2) λy=>match y.1 with
 | .int k=>match y.2[i]? with
  |some (some (.lst us))=>match Am us.length k with
   |some j=>.nx (y.2.set i (some (.lst (us.set j x.1))))
   |none=>.stk
  |_=>.stk
 |_=>.stk
 else .stk
theorem mV (he:DE X G e b1 m1 g1)(hk:DE X G e2 b2 m2 g2)(hn:m1≠.P:=by decide)(hN:X.N[i]? = some y:=by rfl)(hv:EM X.env.scope y:=by first|exact Or.inl rfl|exact Or.inr (Or.inl rfl)|exact Or.inr (Or.inr rfl))(c:G.is i=true:=by rfl)(hd:(y==("__debug__":Str))=false:=by decide)(nE:(y==("__classdict__":Str))=false:=by decide)(ha:∀v,assign (.Subscript (.Name y p1) e2 p2) X.env v=(do
   let ov ←holding [v] (adM (.Name y p1) X.env)
   let iv ←holding [v,ov] (adM e2 X.env)
   standAt p2
   holding [v,ov,iv] (setItem ov iv v)
   release [v,ov,iv] []):=by intro _;rfl)(hs:ae5 [.Subscript (.Name y p1) e2 p2] e pos.line X.env=pure false:=by rfl)(hw:ae6 [.Subscript (.Name y p1) e2 p2] e X.env=pure none:=by rfl)(h1:(acR [.Subscript (.Name y p1) e2 p2] X.env).map (·.2)=[assign (.Subscript (.Name y p1) e2 p2) X.env]:=by rfl):DS X G m (.Assign [.Subscript (.Name y p1) e2 p2] e pos) (rH i g1 g2):=⟨(Iu he.un (RH (iV hN hv hd nE) hk.un II ha) hs hw h1).to λD σ H θ=>by
 obtain⟨Z,A,ρ,q,f⟩:=θ;obtain⟨⟨u,η⟩,e1,f⟩:=f.of;refine⟨Z,A,ρ,q,?_⟩;rw[e1];intro v H1 q1 x1 s1 vm;split at f
 ·rename_i hl;obtain⟨é,Ξ⟩:=yO hl;obtain⟨a0,h0,_⟩:=q1.own c Ξ;obtain⟨⟨k,ν⟩,e2,f⟩:=f.of;refine⟨.ref a0,h0,Z,A,η,q1,?_⟩;rw[e2];intro v2 H2 q2 x2 s2 rA;cases k with
  |int kk=>
   dsimp only at f;split at f
   ·rename_i us hu;split at f
    ·rename_i j hj;obtain⟨ç,k1,k2,_,_,k5⟩:=q2.own c hu;rw[h0] at k1;cases k1;obtain⟨xs,t1,t2,t3⟩:=k5;refine⟨a0,xs,kk,j,rfl,rA.pk.int,t1,by rw[←t3.length];exact hj,?_⟩;have em:∀b o,b≠a0->H2 b=some o->dz H2 a0 (.lst (xs.set j v)) b=some o:=λb o nb z=>by rw[bB nb];exact z
     have ex:fU A H2 _:=λb o nb z=>em b o (λy=>nb (y▸k2)) z;refine f A σ _ (q2.put c hu h0 em ⟨xs.set j v,bD,by rw[abu];exact t2,?_⟩);exact (t3.re q2.mu ex λb z=>.inl z).set j (((vm.rp hn).re q1.mu x2 λb z=>.inl z).re q2.mu ex λb z=>.inl z)
    ·exact f.elim
   ·exact f.elim
  |_=>exact f.elim
 ·exact f.elim⟩
end
end L2
namespace L2
def Jv:R2:=λx y H Q=>∃l b xs zs,x=.ref l/\y=.ref b/\H l=some (.lst xs)/\H b=some (.lst zs)/\xs.length+zs.length<=aaf/\∀p,H p=none->Q (.ref p) (dz H p (.lst (xs++zs)))
theorem E7:jT X (acQ .Add) Jv:=by
 intro ċ s σ H x y v u Q I rx ry h;obtain⟨l,b,xs,zs,rfl,rfl,hH,hB,hz,q⟩:=h;cases rx;cases ry;obtain⟨z,az,n,r,hl,e⟩:=I.lstM hH;obtain⟨z2,χ,n2,r2,Rj,e2⟩:=I.lstM hB;refine PySem.P.add_list e e2 ?_ (by rw[aaz,aaz];simp_all);have ea:az.toArray++χ.toArray=(az++χ).toArray:=by simp
 rw[ea];exact⟨.ref _,_,I.lnew (r.append r2) (by rw[aay];lia),rfl,q _ I.fresh⟩
noncomputable def iM:U->U->R U:=λu w=>match u,w with
 | .int i,.int j=>.ok (.int (i+j))
 | .tup a,.tup b=>if a.length+b.length<=aaf then .ok (.tup (a++b)) else .stk
 | .lst a,.lst b=>if a.length+b.length<=aaf then .ok (.lst (a++b)) else .stk
 |_,_=>.stk
noncomputable def Jw:U->U->R U:=λu w=>match u,w with
 | .lst a,.lst b=>if a.length+b.length<=aaf then .ok (.lst (a++b)) else .stk
 |_,_=>.stk
def PU:R2:=λx y H Q=>(CJ λi j=>.int (i+j)) x y H Q\/Jc x y H Q\/Jv x y H Q
def df:jT X (acQ .Add) PU:=RN.or (Jd.or E7)
theorem E8:fV K Jv .O Jw:=λA H x y u w z Q hx hy mu e q=>by
 unfold Jw at e;split at e
 ·split at e
  ·rename_i hl;cases e;obtain⟨a,xs,rfl,h1,l1,r1⟩:=hx;obtain⟨b,ys,rfl,h2,l2,r2⟩:=hy;exact⟨a,b,xs,ys,rfl,rfl,h1,h2,by rw[←r1.length,←r2.length];exact hl,λp hp=>q _ _ (cD hp _) ⟨p,rfl,hp,cI mu (r1.append r2) hp (by rw[aay];exact hl)⟩⟩
  ·cases e
 ·cases e
theorem dg:fV K PU .S iM:=λA H x y u w z Q hx hy mu e q=>by
 unfold iM at e;split at e
 ·cases e;exact .inl ⟨_,_,hx.int,hy.int,q _ H (aO.refl _) (show Rp K H A _ _ from dJ)⟩
 ·split at e
  ·rename_i hl;cases e;obtain⟨a,xs,rfl,h1,l1,r1⟩:=hx;obtain⟨b,ys,rfl,h2,l2,r2⟩:=hy;refine .inr (.inl ⟨a,b,xs,ys,rfl,rfl,h1,h2,by rw[←r1.length,←r2.length];exact hl,λr H' sm hr=>q _ H' sm (show Rp K H' A _ _ from ?_)⟩);exact⟨r,_,rfl,hr,by rw[aay];exact hl,(r1.append r2).same sm⟩
  ·cases e
 ·refine .inr (.inr (E8 A H x y _ _ z Q hx hy mu (e) λv H' sm vm=>q v H' sm ?_));obtain⟨a,rfl,na,t⟩:=vm;exact t.rp (λb h=>.inl h) λh=>by have:=mu a h;rw[na] at this;exact this
 ·cases e
noncomputable def pI (c:Int->Int->Bool)(f:Int->Int->Int):U->U->R U:=λu w=>match u,w with
 | .int i,.int j=>if c i j=true then .ok (.int (f i j)) else .stk
 |_,_=>.stk
theorem E9 {C:Int->Int->Prop}{c:Int->Int->Bool}{f:Int->Int->Int}(h:∀i j,c i j=true->C i j):fV K (rI C λi j=>.int (f i j)) .S (pI c f):=λA H x y u w z Q hx hy mu e q=>by
 unfold pI at e;split at e
 ·rename_i i j;split at e
  ·rename_i hc;cases e;exact⟨i,j,hx.int,hy.int,h i j hc,q _ H (aO.refl _) (show Rp K H A _ _ from dJ)⟩
  ·cases e
 ·cases e
def qz:U->U->R U:=λu w=>match u,w with
 | .int i,.int j=>.ok (.int (i-j))
 |_,_=>.stk
theorem o9:fV K (CJ λi j=>.int (i-j)) .S qz:=λA H x y u w z Q hx hy mu e q=>by
 unfold qz at e;split at e
 ·cases e;exact⟨_,_,hx.int,hy.int,q _ H (aO.refl _) (show Rp K H A _ _ from dJ)⟩
 ·cases e
noncomputable def lq (i j:Int):Bool:=(decide (-(2 ^ 64)<i)&&decide (i<2 ^ 64))||(decide (-(2 ^ 64)<j)&&decide (j<2 ^ 64))
def ja:U->U->R U:=pI lq (·*·)
theorem eX:fV K (rI Na λi j=>.int (i*j)) .S ja:=E9 λi j h=>by
 unfold lq at h;simp only[ads,aaC,decide_eq_true_eq] at h;exact h
def C7 (_ j:Int):Bool:=decide (0<j)&&decide (j<18446744073709551616)
def jb:U->U->R U:=pI C7 (· / ·)
theorem gH:fV K (rI I_ λi j=>.int (i / j)) .S jb:=E9 λi j h=>by
 unfold C7 at h;simp only[aaC,decide_eq_true_eq] at h;exact h
def uN:U->U->R U:=pI (λ_ j=>decide (0<j)) (· % ·)
def jY:fV K (rI (λ_ j=>0<j) λi j=>.int (i % j)) .S uN:=E9 λi j h=>of_decide_eq_true h
def NJ (i j:Int):Bool:=decide (0<=j)&&decide (j<=1000000)&&decide (i.natAbs<2 ^ 64)
def NK:U->U->R U:=pI NJ λi j=>i ^ j.toNat
theorem E_:fV K (rI UZ λi j=>.int (i ^ j.toNat)) .S NK:=E9 λi j h=>by
 unfold NJ at h;simp only[aaC,decide_eq_true_eq] at h;exact⟨h.1.1,h.1.2,h.2⟩
def Jx:U->R U:=λu=>match u with
 | .int i=>.ok (.int (-i))
 |_=>.stk
theorem Fb:Sa K (rU λi=>.int (-i)) .S Jx:=λA H x u z Q hx mu e q=>by
 unfold Jx at e;split at e
 ·cases e;exact⟨_,hx.int,q _ H (aO.refl _) (show Rp K H A _ _ from dJ)⟩
 ·cases e
noncomputable def pC (f:Int->Int->Bool):U->U->R U:=λu w=>match u,w with
 | .int i,.int j=>.ok (.bl (f i j))
 |_,_=>.stk
theorem Fc {f:Int->Int->Bool}:fV K (CJ λi j=>.bl (f i j)) .S (pC f):=λA H x y u w z Q hx hy mu e q=>by
 unfold pC at e;split at e
 ·cases e;exact⟨_,_,hx.int,hy.int,q _ H (aO.refl _) (show Rp K H A _ _ from jq)⟩
 ·cases e
def Xv:U->U->R U:=pC λi j=>decide (i<j)
def Xw:U->U->R U:=pC λi j=>decide (i<=j)
def Xx:U->U->R U:=pC λi j=>decide (j<i)
def Yr:U->U->R U:=pC λi j=>decide (j<=i)
mutual
noncomputable def l9:U->Option D
 | .non=>some .non
 | .bl b=>some (.bl b)
 | .int i=>some (.int i)
 | .str x=>some (.str x)
 | .tup us=>(ke us).map .tup
 | .lst us=>(ke us).map .lst
 | .dct _ _=>none
 | .scr _=>none
 | .obj _ _=>none
noncomputable def ke:List U->Option (List D)
 | []=>some []
 |u::us=>(l9 u).bind λd=>(ke us).map λds=>d::ds
end
mutual
theorem C8 {H:Hp}{A:aaL->Prop}:∀{u:U} {v:V} {d:D},Rp K H A u v->l9 u=some d->gr K H d v
 | .non,v,d,h,e=>by grind[l9,Rp,gr]
 | .bl b,v,d,h,e=>by grind[l9,Rp,gr]
 | .int b,v,d,h,e=>by grind[l9,Rp,gr]
 | .str b,v,d,h,e=>by grind[l9,Rp,gr]
 | .tup us,v,d,h,e=>by
  unfold l9 at e;cases e2:ke us with
  |none=>grind
  |some ds=>
   rw[e2] at e;cases e;unfold Rp at h;unfold gr;obtain⟨a,xs,r,q,l,z⟩:=h;exact⟨a,xs,r,iG.of q,mW z e2⟩
 | .lst us,v,d,h,e=>by
  unfold l9 at e;cases e2:ke us with
  |none=>grind
  |some ds=>
   rw[e2] at e;cases e;unfold Rp at h;unfold gr;obtain⟨a,xs,r,_,q,l,z⟩:=h;exact⟨a,xs,r,g_.of q,mW z e2⟩
 | .dct _ _,v,d,h,e=>by grind[l9]
 | .scr _,v,d,h,e=>by grind[l9]
 | .obj _ _,v,d,h,e=>by grind[l9]
theorem mW {H:Hp}{A:aaL->Prop}:∀{us:List U} {vs:List V} {ds:List D},aU K H A us vs->ke us=some ds->iK K H ds vs
 | [],vs,ds,h,e=>by grind[ke,aU,iK]
 |u::us,vs,ds,h,e=>by
  unfold ke at e;cases e1:l9 u with
  |none=>grind
  |some d=>
   cases e2:ke us with
   |none=>grind
   |some Ñ=>
    rw[e1,e2] at e;cases e;unfold aU at h;unfold iK;obtain⟨x,r,q,p,z⟩:=h;exact⟨x,r,q,C8 p e1,mW z e2⟩
end
theorem yQ {d:D}(h:Pk K H A u v)(e:l9 u=some d):gr K H d v:=by
 cases u with
 |lst us=>
  unfold l9 at e;cases e2:ke us with
  |none=>grind
  |some ds=>
   rw[e2] at e;cases e;obtain⟨a,xs,r,q,l,z⟩:=h;exact⟨a,xs,r,g_.of q,mW z e2⟩
 |dct=>cases e
 |scr=>cases e
 |tup us=>exact C8 (by exact h) e
 |_=>exact C8 (A:=A) (by exact h) e
def o_ (u w:U):R Bool:=match l9 u,l9 w with
 |some d,some d'=>if fj d<=30 then .ok (k8 d d') else .stk
 |_,_=>.stk
def NL (f:Bool->Bool):U->U->R U:=λu w=>(o_ u w).bind λb=>.ok (.bl (f b))
theorem uO {f:Bool->Bool}:fV K (R4 K f) .S (NL f):=λA H x y u w z Q hx hy mu e q=>by
 unfold NL o_ at e;obtain⟨b,e1,e2⟩:=R.bind_ok e;split at e1
 ·rename_i d d' h1 h2;split at e1
  ·rename_i hd;cases e1;cases e2;exact⟨d,d',yQ hx h1,yQ hy h2,hd,q _ H (aO.refl _) (show Rp K H A _ _ from jq)⟩
  ·cases e1
 ·cases e1
def rJ:U->Bool
 | .non=>true
 |_=>false
theorem AW (h:Pk K H A u v):decide (v=.non)=rJ u:=by
 cases u<;>unfold Pk at h
 case tup=>obtain⟨a,xs,rfl,_⟩:=h;rfl
 case lst=>obtain⟨a,xs,rfl,_⟩:=h;rfl
 case dct=>obtain⟨a,xs,rfl,_⟩:=h;rfl
 case scr=>obtain⟨a,xs,rfl,_⟩:=h;rfl
 case obj=>obtain⟨a,C,dx,xs,rfl,_⟩:=h;rfl
 all_goals (subst h;rfl)
def l_ (f:Bool->Bool):U->U->R U:=λu w=>match w with
 | .non=>.ok (.bl (f (rJ u)))
 |_=>.stk
theorem yR:fV K (λx y H Q=>y=.non/\Q (.bl (decide (x=.non))) H) .S (l_ id):=λA H x y u w z Q hx hy mu e q=>by
 unfold l_ at e;split at e
 ·cases e;refine⟨by exact hy,q _ H (aO.refl _) ?_⟩;rw[AW hx];rfl
 ·cases e
theorem pb:fV K (λx y H Q=>y=.non/\Q (.bl (!decide (x=.non))) H) .S (l_ not):=λA H x y u w z Q hx hy mu e q=>by
 unfold l_ at e;split at e
 ·cases e;refine⟨by exact hy,q _ H (aO.refl _) ?_⟩;rw[AW hx];rfl
 ·cases e
theorem C9 {i:Int}{z:U}(r:aU K H A us xs)(e:qj us i=some z):∃v,qj xs i=some v/\Rp K H A z v:=by
 unfold qj at e ⊢;rw[←r.length];cases h:Am us.length i with
 |none=>rw[h] at e;cases e
 |some j=>
  rw[h] at e;obtain⟨v,h1,h2⟩:=r.get (e);exact⟨v,h1,h2⟩
noncomputable def dq:U->U->R U:=λu w=>match u,w with
 | .lst us,.int i=>match qj us i with
  |some z=>.ok z
  |none=>.stk
 | .tup us,.int i=>match qj us i with
  |some z=>.ok z
  |none=>.stk
 | .scr us,.int i=>match qj us i with
  |some z=>.ok z
  |none=>.stk
 | .str x,.int i=>match qj x.cps.toList i with
  |some c=>if x.length<=aaf then .ok (.str ⟨#[c]⟩) else .stk
  |none=>.stk
 |_,_=>.stk
abbrev zqb (i:Nat)(n:Int):Ev->R (U×Ev):=aR dq (ag i) (zqc n)
theorem aN:fV K (ZD K) .S dq:=λA H x y u w z Q hx hy mu e q=>by
 unfold dq at e;split at e
 ·split at e
  ·rename_i z' hz;cases e;obtain⟨a,xs,rfl,h1,l1,r1⟩:=hx;obtain⟨v,h2,h3⟩:=C9 r1 hz;exact .inl ⟨a,xs,_,v,rfl,hy.int,g_.of h1,h2,q _ H (aO.refl _) h3⟩
  ·cases e
 ·split at e
  ·rename_i z' hz;cases e;obtain⟨a,xs,rfl,h1,l1,r1⟩:=hx;obtain⟨v,h2,h3⟩:=C9 r1 hz;exact .inr (.inl ⟨a,xs,_,v,rfl,hy.int,iG.of h1,h2,q _ H (aO.refl _) h3⟩)
  ·cases e
 ·split at e
  ·rename_i z' hz;cases e;obtain⟨a,xs,rfl,h1,l1,r1⟩:=hx;obtain⟨v,h2,h3⟩:=C9 r1 hz;exact .inl ⟨a,xs,_,v,rfl,hy.int,h1.sq,h2,q _ H (aO.refl _) h3⟩
  ·cases e
 ·split at e
  ·rename_i z' hz;split at e
   ·rename_i hl;cases e;exact .inr (.inr ⟨_,_,z',hx.str,hy.int,hl,hz,q _ H (aO.refl _) (show Rp K H A _ _ from R9)⟩)
   ·cases e
  ·cases e
 ·cases e
def zqa {X G x pos k j p q}(i:Nat)(hN:X.N[i]? = some x:=by rfl)(hv:EM X.env.scope x:=by first|exact Or.inl rfl|exact Or.inr (Or.inl rfl)|exact Or.inr (Or.inr rfl))(hd:(x==("__debug__":Str))=false:=by decide)(nE:(x==("__classdict__":Str))=false:=by decide) (c:G.is i=false:=by rfl):DE X G (.Subscript (.Name x pos) (.Constant (.int k) j p) q) false .S (zqb i k):=bp aM aN (ak i hN hv hd nE c) au λ_ _=>rfl
noncomputable def kC {α:Type}(xs:List α)(lo hi:Option Int):List α:=(xs.drop (HT.sIx xs.length 0 lo)).take (HT.sIx xs.length xs.length hi-HT.sIx xs.length 0 lo)
theorem ma {α:Type}(xs:List α)(lo hi:Option Int):(kC xs lo hi).length<=xs.length:=by
 unfold kC;rw[aa2,acd];lia
theorem yS (r:aU K H A us xs)(lo hi:Option Int):aU K H A (kC us lo hi) (yC xs lo hi):=by
 unfold kC yC;rw[←r.length];exact (r.drop _).take _
def kD:IG X (λx lo hi H Q=>Nm X.K x lo hi H Q\/Jb X.K x lo hi H Q):=Nn.or Nv
noncomputable def yT:U->Option Int->Option Int->R U:=λu lo hi=>match u with
 | .lst us=>.ok (.lst (kC us lo hi))
 | .scr us=>.ok (.lst (kC us lo hi))
 | .tup us=>.ok (.tup (kC us lo hi))
 |_=>.stk
noncomputable def Vt:U->Option Int->Option Int->R U:=λu lo hi=>match u with
 | .lst us=>.ok (.lst (kC us lo hi))
 | .scr us=>.ok (.lst (kC us lo hi))
 |_=>.stk
theorem Fd:Jp K (Nm K) .O Vt:=λA H x u lo hi z Q hx mu e q=>by
 unfold Vt at e;split at e
 ·cases e;obtain⟨a,xs,rfl,h1,l1,r1⟩:=hx;exact⟨a,xs,rfl,g_.of h1,λp hp=>q _ _ (cD hp _) ⟨p,rfl,hp,cI mu (yS r1 lo hi) hp (abl (ma _ _ _) l1)⟩⟩
 ·cases e;obtain⟨a,xs,rfl,h1,l1,r1⟩:=hx;exact⟨a,xs,rfl,h1.sq,λp hp=>q _ _ (cD hp _) ⟨p,rfl,hp,cI mu (yS r1 lo hi) hp (abl (ma _ _ _) l1)⟩⟩
 ·cases e
theorem PV (mu:∀a,A a->Mu (H a))(vm:E3 K .O A H H' u v):Rp K H' A u v:=by
 obtain⟨a,rfl,na,t⟩:=vm;exact t.rp (λb h=>.inl h) λh=>by have:=mu a h;rw[na] at this;exact this
theorem qA:Jp K (λx lo hi H Q=>Nm K x lo hi H Q\/Jb K x lo hi H Q) .S yT:=λA H x u lo hi z Q hx mu e q=>by
 unfold yT at e;split at e
 ·cases e;exact .inl (Fd A H x _ lo hi _ Q hx mu rfl λv H' sm vm=>q v H' sm (PV mu vm))
 ·cases e;exact .inl (Fd A H x _ lo hi _ Q hx mu rfl λv H' sm vm=>q v H' sm (PV mu vm))
 ·cases e;obtain⟨a,xs,rfl,h1,l1,r1⟩:=hx;refine .inr ⟨a,xs,rfl,h1,λr H' sm hr=>q _ H' sm (show Rp K H' A _ _ from ?_)⟩;exact⟨r,_,rfl,hr,abl (ma _ _ _) l1,(yS r1 lo hi).same sm⟩
 ·cases e
end L2
namespace L2
section
theorem MN.one (h:MN K H A [u] vs):∃v,vs=[v]/\Pk K H A u v:=by
 obtain⟨x,r,rfl,p,q⟩:=h;subst q;exact⟨x,rfl,p⟩
theorem MN.two {w:U}(h:MN K H A [u,w] vs):∃v v',vs=[v,v']/\Pk K H A u v/\Pk K H A w v':=by
 obtain⟨x,r,rfl,p,q⟩:=h;obtain⟨v,rfl,q'⟩:=MN.one q;exact⟨x,v,rfl,p,q'⟩
noncomputable def gy:List U->R U:=λus=>match us with
 | [.lst xs]=>.ok (.int xs.length)
 | [.tup xs]=>.ok (.int xs.length)
 | [.scr xs]=>.ok (.int xs.length)
 | [.str x]=>if x.length<=aaf then .ok (.int x.length) else .stk
 |_=>.stk
theorem eY:lT K (λxs H Q=>∃x n,xs=[x]/\U3 K x H n/\Q (.int n) H) .S gy:=λA H vs us z Q h mu e q=>by
 unfold gy at e;split at e
 ·rename_i xs;cases e;obtain⟨v,rfl,p⟩:=h.one;obtain⟨a,ys,rfl,h1,l1,r1⟩:=p;exact⟨_,xs.length,rfl,.inl ⟨ys,g_.of h1,r1.length⟩,q _ H (aO.refl _) (show Rp K H A _ _ from dJ)⟩
 ·rename_i xs;cases e;obtain⟨v,rfl,p⟩:=h.one;obtain⟨a,ys,rfl,h1,l1,r1⟩:=p;exact⟨_,xs.length,rfl,.inr ⟨ys,iG.of h1,r1.length⟩,q _ H (aO.refl _) (show Rp K H A _ _ from dJ)⟩
 ·rename_i xs;cases e;obtain⟨v,rfl,p⟩:=h.one;obtain⟨a,ys,rfl,h1,l1,r1⟩:=p;exact⟨_,xs.length,rfl,.inl ⟨ys,h1.sq,r1.length⟩,q _ H (aO.refl _) (show Rp K H A _ _ from dJ)⟩
 ·rename_i x;split at e
  ·rename_i hl;cases e;obtain⟨v,rfl,p⟩:=h.one;have:=p.str;subst this;exact⟨_,x.length,rfl,⟨hl,rfl⟩,q _ H (aO.refl _) (show Rp K H A _ _ from dJ)⟩
  ·cases e
 ·cases e
noncomputable def bJ:List U->R U:=λus=>match us with
 | [.lst xs]=>.ok (.tup xs)
 | [.tup xs]=>.ok (.tup xs)
 |_=>.stk
theorem bo:lT K (λxs H Q=>∃p ys,xs=[.ref p]/\((g_ K H p ys/\∀l,H l=none->Q (.ref l) (dz H l (.tup ys)))\/(iG K H p ys/\Q (.ref p) H))) .S bJ:=λA H vs us z Q h mu e q=>by
 unfold bJ at e;split at e
 ·cases e;obtain⟨v,rfl,p⟩:=h.one;obtain⟨a,ys,rfl,h1,l1,r1⟩:=p;exact⟨a,ys,rfl,.inl ⟨g_.of h1,λl hl=>q _ _ (cD hl _) (mQ r1 hl l1)⟩⟩
 ·cases e;obtain⟨v,rfl,p⟩:=h.one;have p':=p;obtain⟨a,ys,rfl,h1,l1,r1⟩:=p;refine⟨a,ys,rfl,.inr ⟨iG.of h1,q _ H (aO.refl _) (show Rp K H A _ _ from ?_)⟩⟩;exact p'
 ·cases e
noncomputable def Ha:List U->R U:=λus=>match us with
 | [.int i]=>.ok (.int (if i<0 then -i else i))
 |_=>.stk
theorem Fe:lT K (λxs H Q=>∃i,xs=[.int i]/\Q (.int (if i<0 then -i else i)) H) .S Ha:=λA H vs us z Q h mu e q=>by
 unfold Ha at e;split at e
 ·cases e;obtain⟨v,rfl,p⟩:=h.one;exact⟨_,by rw[p.int],q _ H (aO.refl _) (show Rp K H A _ _ from dJ)⟩
 ·cases e
noncomputable def AX:List U->R U:=λus=>match us with
 | [.int i,.int j]=>.ok (.int (if j>i then j else i))
 |_=>.stk
theorem AY:lT K (λxs H Q=>∃i j,xs=[.int i,.int j]/\Q (.int (if j>i then j else i)) H) .S AX:=λA H vs us z Q h mu e q=>by
 unfold AX at e;split at e
 ·cases e;obtain⟨v,w,rfl,p,p'⟩:=h.two;exact⟨_,_,by rw[p.int,p'.int],q _ H (aO.refl _) (show Rp K H A _ _ from dJ)⟩
 ·cases e
noncomputable def uP:List U->R U:=λus=>match us with
 | [.int i,.int j]=>.ok (.int (if j<i then j else i))
 |_=>.stk
theorem pd:lT K (λxs H Q=>∃i j,xs=[.int i,.int j]/\Q (.int (if j<i then j else i)) H) .S uP:=λA H vs us z Q h mu e q=>by
 unfold uP at e;split at e
 ·cases e;obtain⟨v,w,rfl,p,p'⟩:=h.two;exact⟨_,_,by rw[p.int,p'.int],q _ H (aO.refl _) (show Rp K H A _ _ from dJ)⟩
 ·cases e
def jr:List U->Option (List Int)
 | []=>some []
 | .int i::us=>(jr us).map (i::·)
 |_::_=>none
def oh:List U->Option (List Bool)
 | []=>some []
 | .bl i::us=>(oh us).map (i::·)
 |_::_=>none
theorem lu:∀{us:List U} {ns:List Int},jr us=some ns->us=ns.map .int
 | [],ns,h=>by cases h;rfl
 |u::us,ns,h=>by
  cases u<;>unfold jr at h<;>try cases h
  cases e:jr us with
  |none=>grind
  |some ms=>rw[e] at h;cases h;rw[lu e];rfl
theorem AZ:∀{us:List U} {ns:List Bool},oh us=some ns->us=ns.map .bl
 | [],ns,h=>by cases h;rfl
 |u::us,ns,h=>by
  cases u<;>unfold oh at h<;>try cases h
  cases e:oh us with
  |none=>grind
  |some ms=>rw[e] at h;cases h;rw[AZ e];rfl
theorem Hb (ns:List Bool):oh (ns.map .bl)=some ns:=by
 induction ns with
 |nil=>rfl
 |cons n ns ih=>grind[aal,oh]
theorem aU.toI {H:Hp}{A:aaL->Prop}:∀{ns:List Int} {vs:List V},aU K H A (ns.map .int) vs->vs=ns.map V.int
 | [],vs,h=>by exact h
 |n::ns,vs,h=>by
  obtain⟨x,r,rfl,p,q⟩:=h;rw[p,aU.toI q];rfl
theorem aU.toB {H:Hp}{A:aaL->Prop}:∀{ns:List Bool} {vs:List V},aU K H A (ns.map .bl) vs->vs=ns.map V.bl
 | [],vs,h=>by exact h
 |n::ns,vs,h=>by
  obtain⟨x,r,rfl,p,q⟩:=h;rw[p,aU.toB q];rfl
theorem pf {H:Hp}{A:aaL->Prop}:∀(ns:List Int),aU K H A (ns.map .int) (ns.map V.int)
 | []=>aU.nil
 |n::ns=>aU.cons dJ (pf ns)
def Hd:List U->R U:=λus=>match us with
 | [.lst xs]=>match oh xs with
  |some bs=>.ok (.bl (bs.all id))
  |none=>.stk
 |_=>.stk
theorem NM:lT K (λxs H Q=>∃(p:aaL) (bs:List Bool),xs=[.ref p]/\g_ K H p (bs.map V.bl)/\Q (.bl (bs.all id)) H) .S Hd:=λA H vs us z Q h mu e q=>by
 unfold Hd at e;split at e
 ·split at e
  ·rename_i bs hb;cases e;obtain⟨v,rfl,p⟩:=h.one;obtain⟨a,ys,rfl,h1,l1,r1⟩:=p;rw[AZ hb] at r1;rw[r1.toB] at h1;exact⟨a,bs,rfl,g_.of h1,q _ H (aO.refl _) (show Rp K H A _ _ from jq)⟩
  ·cases e
 ·cases e
def He (x:Int):List Int->List Int
 | []=>[x]
 |y::r=>if y<x then y::He x r else x::y::r
def A4 (ns:List Int):List Int:=ns.foldr He []
theorem qB (x:Int):∀l,(He x l).Perm (x::l)
 | []=>.refl _
 |y::r=>by
  unfold He;split
  ·exact ((qB x r).cons y).trans (.swap x y r)
  rfl
theorem oj:∀ns:List Int,(A4 ns).Perm ns
 | []=>.refl _
 |x::l=>(qB x _).trans ((oj l).cons x)
theorem Ff (x:Int):∀{l:List Int},l.Pairwise (·<=·)->(He x l).Pairwise (·<=·)
 | [],_=>abE _ _
 |y::r,h=>by
  obtain⟨h1,h2⟩:=ab_.mp h;unfold He;split
  ·refine ab_.mpr ⟨λz hz=>?_,Ff x h2⟩;rcases aaA.mp ((qB x r).mem_iff.mp hz) with rfl|hz
   ·lia
   ·exact h1 z hz
  ·refine ab_.mpr ⟨λz hz=>?_,h⟩;grind
theorem A5:∀ns:List Int,(A4 ns).Pairwise (·<=·)
 | []=>List.Pairwise.nil
 |x::l=>Ff x (A5 l)
def C_:List U->R U:=λus=>match us with
 | [.lst xs]=>match jr xs with
  |some ns=>if ns.length<64 then .ok (.lst ((A4 ns).map .int)) else .stk
  |none=>.stk
 | [.tup xs]=>match jr xs with
  |some ns=>if ns.length<64 then .ok (.lst ((A4 ns).map .int)) else .stk
  |none=>.stk
 |_=>.stk
theorem Hg:lT K (λxs H Q=>∃(p:aaL) (ns:List Int),xs=[.ref p]/\(g_ K H p (ns.map V.int)\/iG K H p (ns.map V.int))/\ns.length<64/\
  ∀(l:aaL) (Ad:List Int),H l=none->Ad.Perm ns->Ad.Pairwise (·<=·)->Q (.ref l) (dz H l (.lst (Ad.map V.int)))) .O C_:=λA H vs us z Q h mu e q=>by
 have fin:∀(ns:List Int),ns.length<64->z=.lst ((A4 ns).map .int)->∀(l:aaL) (Ad:List Int),H l=none->Ad.Perm ns->Ad.Pairwise _->Q (.ref l) (dz H l (.lst (Ad.map _))):=λns hl hz l Ad hn hp hw=>by
  have e:=PySem.W.ksm_same (hp.trans (oj ns).symm) hw (A5 ns);subst e hz;refine q _ _ (cD hn _) ⟨l,rfl,hn,cI mu (pf _) hn ?_⟩;have:aaf=16777216:=rfl;rw[aaa,(oj ns).length_eq];lia
 unfold C_ at e;split at e
 ·split at e
  ·rename_i ns hb;split at e
   ·rename_i hl;cases e;obtain⟨v,rfl,p⟩:=h.one;obtain⟨a,ys,rfl,h1,l1,r1⟩:=p;rw[lu hb] at r1;rw[r1.toI] at h1;exact⟨a,ns,rfl,.inl (g_.of h1),hl,fin ns hl rfl⟩
   ·cases e
  ·cases e
 ·split at e
  ·rename_i ns hb;split at e
   ·rename_i hl;cases e;obtain⟨v,rfl,p⟩:=h.one;obtain⟨a,ys,rfl,h1,l1,r1⟩:=p;rw[lu hb] at r1;rw[r1.toI] at h1;exact⟨a,ns,rfl,.inr (iG.of h1),hl,fin ns hl rfl⟩
   ·cases e
  ·cases e
 ·cases e
def Yt (ks:List U):String:=match ks with
 | .tup _::_=>"script"
 |_=>"dict"
def Uy:U->String
 | .non=>"NoneType"
 | .bl _=>"bool"
 | .int _=>"int"
 | .str _=>"str"
 | .tup _=>"tuple"
 | .lst _=>"list"
 | .dct ks _=>Yt ks
 | .scr _=>"script"
 | .obj _ _=>"script"
theorem Vu (h:Pk K H A u v)(hs:Uy u≠"script"):Cw K H v (Uy u):=by
 cases u<;>unfold Pk at h
 case scr=>exact absurd rfl hs
 case obj=>exact absurd rfl hs
 case non=>subst h;exact .non
 case bl=>subst h;exact .bl _
 case int=>subst h;exact .int _
 case str=>subst h;exact .str _
 case tup=>obtain⟨a,xs,rfl,h1,_⟩:=h;exact .tup h1
 case lst=>
  obtain⟨a,xs,rfl,h1,_⟩:=h;exact .lst h1
 case dct=>
  obtain⟨a,xs,rfl,h1,_⟩:=h;rcases h1 with⟨k,h1,e,_⟩|⟨k,n,h1,e,_⟩
  ·have:Yt (k.map λp=>kU p.1)="dict":=by
    cases k with
    |nil=>rfl
    |cons p k=>
     obtain⟨p1,p2⟩:=p;cases p1<;>rfl
   show Cw K H _ (Yt _);rw[e,this];exact .dK h1
  ·refine absurd e λe=>?_;cases k with
   |nil=>exact n rfl
   |cons p k=>rw[e] at hs;exact hs rfl
variable {e:ab6}{pos p1 p2:Pos}{b1:Bool}{m1:Md}{g1:Ev->R (U×Ev)}
def A6 (T:String)(g:Ev->R (U×Ev)):Ev->R (U×Ev):=λρ=>(g ρ).bind λx=>if Uy x.1="script" then .stk else .ok (.bl (mP (Uy x.1) T),x.2)
theorem yU (hT:T∈["bool","int","str","list","tuple","dict"])(he:DE X G e b1 m1 g1)(zi:X.mg "isinstance"=none)(zt:X.mg x=none)(bt:abk x=some (.type T))(hg:Gl X "isinstance":=by rfl)(ht:Gl X x:=by rfl)(hn:x≠"__name__":=by decide)(hd:(x==("__debug__":Str))=false:=by decide)(hs:aaN [e,.Name x p2] X.env=(false,adM e X.env)::aaN [.Name x p2] X.env:=by rfl)(wX:aaN [.Name x p2] X.env=(false,adM (.Name x p2) X.env)::aaN [] X.env:=by rfl)(sO:(acy pos (aaN [.Name x p2] X.env)).any (·.1)=false:=by rfl) :
  DE X G (.Call (.Name "isinstance" p1) [e,.Name x p2] [] pos) b1 .S (A6 T g1):=⟨(oM (AI hT) hg zi w_ (jU he.un (jU (MZ (v:=.ty T) ht zt bt rfl hn hd) n_ wX) hs) (by decide) (by decide) hs sO).to λσ H Q h=>by
 obtain⟨Z,A,ρ,q,f⟩:=h;obtain⟨⟨u,η⟩,e1,f⟩:=f.bind;refine⟨Z,A,ρ,q,?_⟩;rw[e1];intro v H1 q1 x1 s1 vm;split at f
 ·exact f.elim
 ·rename_i hn;exact⟨v,_,rfl,Vu vm.pk hn,f _ H1 q1 x1 s1 (yL.ofS jq)⟩⟩
noncomputable def A7 (i j:Int):Bool:=decide (-1000000<=i)&&decide (i<=1000000)&&decide (-1000000<=j)&&decide (j<=1000000)
def A8 (g:Ev->R (List U×Ev)):Ev->R (U×Ev):=λρ=>(g ρ).bind λx=>match x.1 with
 | [.int j]=>if A7 0 j=true then .ok (.lst (bu 0 (j-0).toNat),x.2) else .stk
 |_=>.stk
def Fg (g:Ev->R (List U×Ev)):Ev->R (U×Ev):=λρ=>(g ρ).bind λx=>match x.1 with
 | [.int j]=>if A7 0 j=true then .ok (.tup (bu 0 (j-0).toNat),x.2) else .stk
 |_=>.stk
theorem xO (lo:Int)(n:Nat):aU K H A (bu lo n) ((aax n).map λi=>V.int (lo+(i:Nat))):=by
 unfold bu;have e1:(aax n).map (λi=>U.int (lo+(i:Nat)))=((aax n).map λi=>lo+(i:Nat)).map U.int:=by rw[aat];rfl
 have e2:(aax n).map (λi=>V.int (lo+(i:Nat)))=((aax n).map λi=>lo+(i:Nat)).map V.int:=by rw[aat];rfl
 rw[e1,e2];exact pf _
theorem bP (lo:Int)(n:Nat):(bu lo n).length=n:=by unfold bu;rw[aaa,aaJ]
variable {ga:Ev->R (List U×Ev)}{a:ab6}{p3 p4:Pos}
theorem yV (hc:X.calm=true)(ha:DA X G [a] b1 false ga)(zl:X.mg "list"=none)(zr:X.mg "range"=none)(hg:Gl X "list":=by rfl)(Pt:Gl X "range":=by rfl)
  (hs:aaN [.Call (.Name "range" p3) [a] [] p4] X.env=(false,adM (.Call (.Name "range" p3) [a] [] p4) X.env)::aaN [] X.env:=by rfl) (wX:aaN [a] X.env=(false,adM a X.env)::aaN [] X.env:=by rfl)
  (sO:(acy pos (aaN [] X.env)).any (·.1)=false:=by rfl) (EG:(acy p4 (aaN [] X.env)).any (·.1)=false:=by rfl):DE X G (.Call (.Name "list" p1) [.Call (.Name "range" p3) [a] [] p4] [] pos) b1 .O (A8 ga):=⟨(ik (w9 hc) hg zl yF (jU (ik rF Pt zr AJ ha.un (by decide) (by decide) wX EG) n_ hs) (by decide) (by decide) hs sO).to λσ H Q h=>by
 obtain⟨Z,A,ρ,q,f⟩:=h;obtain⟨⟨us,η⟩,e1,f⟩:=f.bind;refine⟨Z,A,ρ,q,?_⟩;rw[e1];intro vs H1 q1 x1 s1 vm;dsimp only at f;split at f
 ·rename_i j;split at f
  ·rename_i hj;have r:=vm.rps;obtain⟨v,vr,rfl,r1,r2⟩:=r;subst r2;subst r1;unfold A7 at hj;simp only[aaC,decide_eq_true_eq] at hj;refine⟨j,rfl,λp hp=>⟨p,0,j,rfl,bD,by (simp;lia),by (simp;lia),λl hl=>?_⟩⟩;have sp:=cD hp (.rng 0 j);have sl:=cD hl (.lst ((aax (j-0).toNat).map λi=>V.int (0+(i:Nat))));exact f _ _ ((q1.same sp).same sl) (x1.trans (fU.same (sp.trans sl))) (og s1 (sp.trans sl)) (E3.e (q1.same sp) sl ⟨l,rfl,hl,cI (q1.same sp).mu (xO 0 _) hl (by rw[bP];have:aaf=16777216:=rfl;(simp;lia))⟩)
  ·exact f.elim
 ·exact f.elim⟩
theorem Fh (hc:X.calm=true)(ha:DA X G [a] b1 false ga)(zl:X.mg "tuple"=none)(zr:X.mg "range"=none)(hg:Gl X "tuple":=by rfl)(Pt:Gl X "range":=by rfl)
  (hs:aaN [.Call (.Name "range" p3) [a] [] p4] X.env=(false,adM (.Call (.Name "range" p3) [a] [] p4) X.env)::aaN [] X.env:=by rfl) (wX:aaN [a] X.env=(false,adM a X.env)::aaN [] X.env:=by rfl)
  (sO:(acy pos (aaN [] X.env)).any (·.1)=false:=by rfl) (EG:(acy p4 (aaN [] X.env)).any (·.1)=false:=by rfl):DE X G (.Call (.Name "tuple" p1) [.Call (.Name "range" p3) [a] [] p4] [] pos) b1 .S (Fg ga):=⟨(ik (uz hc) hg zl bC (jU (ik rF Pt zr AJ ha.un (by decide) (by decide) wX EG) n_ hs) (by decide) (by decide) hs sO).to λσ H Q h=>by
 obtain⟨Z,A,ρ,q,f⟩:=h;obtain⟨⟨us,η⟩,e1,f⟩:=f.bind;refine⟨Z,A,ρ,q,?_⟩;rw[e1];intro vs H1 q1 x1 s1 vm;dsimp only at f;split at f
 ·rename_i j;split at f
  ·rename_i hj;have r:=vm.rps;obtain⟨v,vr,rfl,r1,r2⟩:=r;subst r2;subst r1;unfold A7 at hj;simp only[aaC,decide_eq_true_eq] at hj;refine⟨j,rfl,λp hp=>⟨p,0,j,rfl,bD,by lia,by lia,λl hl=>?_⟩⟩;have sp:=cD hp (.rng 0 j);have sl:=cD hl (.tup ((aax (j-0).toNat).map λi=>V.int (0+(i:Nat))));exact f _ _ ((q1.same sp).same sl) (x1.trans (fU.same (sp.trans sl))) (og s1 (sp.trans sl)) (yL.ofS (mQ (xO 0 _) hl (by rw[bP];have:aaf=16777216:=rfl;lia)))
  ·exact f.elim
 ·exact f.elim⟩
noncomputable def eZ:U->List U->R (U×U):=λu us=>match u,us with
 | .lst xs,[y]=>if xs.length<aaf then .ok (.non,.lst (xs++[y])) else .stk
 |_,_=>.stk
theorem lx {a:aaL}(o:HO):∀b u,b≠a->H b=some u->dz H a o b=some u:=λb u nb z=>by rw[bB nb];exact z
def uc {a:aaL}(mu:∀a,A a->Mu (H a))(ha:A a)(r:aU K H A us xs)(l:us.length<=aaf):nG K (dz H a (.lst xs)) A (.lst us) a:=
 ⟨xs,bD,l,r.re mu (λb o nb z=>lx _ b o (λy=>nb (y▸ha)) z) λb z=>.inl z⟩
theorem dM:Jn K "list" EY eZ:=λA H a u vs us z w Q t ha r mu e q=>by
 unfold eZ at e;split at e
 ·split at e
  ·rename_i hl;cases e;obtain⟨ys,h1,l1,r1⟩:=t;obtain⟨v,vr,rfl,p,r2⟩:=r;subst r2;exact⟨a,ys,v,rfl,rfl,h1,by rw[←r1.length];exact hl,q _ _ (lx _) (uc mu ha (r1.append (aU.cons p aU.nil)) (by rw[aay];exact hl)) uF⟩
  ·cases e
 ·cases e
def A9:V->List V->Hp->VK->Prop:=λx vs H Q=>∃l b xs zs,x=.ref l/\vs=[.ref b]/\H l=some (.lst xs)/\H b=some (.lst zs)/\xs.length+zs.length<=aaf/\Q .non (dz H l (.lst (xs++zs)))
theorem Dd:Nk X "list.extend" A9:=by
 intro ċ s σ H x vs v us Q I rx rv h;obtain⟨l,b,xs,zs,rfl,rfl,hH,hB,hz,q⟩:=h;cases rx;obtain⟨u,rfl,ru⟩:=rv.one;cases ru;obtain⟨z,az,n,r,hl,e⟩:=I.lstM hH;obtain⟨z2,χ,n2,r2,Rj,e2⟩:=I.lstM hB;have hsz:az.toArray.size+χ.toArray.size<=aaf:=by rw[aaz,aaz];lia
 have MB:¬(!az.toArray.isEmpty&&ad6 (az.toArray.size+χ.toArray.size))=true:=by
  rw[uv hsz,aeG];exact aaB
 refine adb F.slot_list_extend ⟨_,e,rfl⟩ F.entry_list_extend (F.args_list_extend_2 _ _)
  (PySem.AutoSeq1.list_extend_list_list_0 l _ n b _ n2 MB (by lia) (by lia)) ⟨e,e2,?_⟩
 refine⟨.non,_,I.lset hH e (by simp) (r.append r2) ?_,rfl,q⟩;rw[aay];lia
def PY:V->List V->Hp->VK->Prop:=λx vs H Q=>A9 x vs H Q\/AK x vs H Q
def NN:Nk X "list.extend" PY:=Dd.or CW
noncomputable def ud:U->List U->R (U×U):=λu us=>match u,us with
 | .lst xs,[.lst ys]=>if xs.length+ys.length<=aaf then .ok (.non,.lst (xs++ys)) else .stk
 | .lst xs,[.tup ys]=>if xs.length+ys.length<=aaf then .ok (.non,.lst (xs++ys)) else .stk
 |_,_=>.stk
theorem De:Jn K "list" PY ud:=λA H a u vs us z w Q t ha r mu e q=>by
 unfold ud at e;split at e
 ·split at e
  ·rename_i hl;cases e;obtain⟨zs,h1,l1,r1⟩:=t;obtain⟨v,vr,rfl,p,r2⟩:=r;subst r2;obtain⟨b,ws,rfl,nb,h2,l2,r3⟩:=p;exact .inl ⟨a,b,zs,ws,rfl,rfl,h1,h2,by rw[←r1.length,←r3.length];exact hl,q _ _ (lx _) (uc mu ha (r1.append r3) (by rw[aay];exact hl)) uF⟩
  ·cases e
 ·split at e
  ·rename_i hl;cases e;obtain⟨zs,h1,l1,r1⟩:=t;obtain⟨v,vr,rfl,p,r2⟩:=r;subst r2;obtain⟨b,ws,rfl,h2,l2,r3⟩:=p;exact .inr ⟨a,b,zs,ws,rfl,rfl,h1,h2,by rw[←r1.length,←r3.length];exact hl,q _ _ (lx _) (uc mu ha (r1.append r3) (by rw[aay];exact hl)) uF⟩
  ·cases e
 ·cases e
noncomputable def qC:U->List U->R (U×U):=λu us=>match u,us with
 | .lst xs,[.int i]=>if -9223372036854775808<=i/\i<9223372036854775808 then (match afM i xs.length with
  |some k=>match xs[k]? with
   |some y=>.ok (y,.lst (xs.eraseIdx k))
   |none=>.stk
  |none=>.stk) else .stk
 |_,_=>.stk
theorem aU.erase {H:Hp}{A:aaL->Prop}:∀{us:List U} {vs:List V} (n:Nat),aU K H A us vs->aU K H A (us.eraseIdx n) (vs.eraseIdx n)
 | [],vs,n,h=>by subst h;rfl
 |u::us,vs,0,h=>by
  obtain⟨x,r,rfl,p,q⟩:=h;exact q
 |u::us,vs,n+1,h=>by
  obtain⟨x,r,rfl,p,q⟩:=h;exact aU.cons p (aU.erase n q)
theorem Hh:Jn K "list" IK qC:=λA H a u vs us z w Q t ha r mu e q=>by
 unfold qC at e;split at e
 ·rename_i xs i;split at e
  ·rename_i hi;split at e
   ·rename_i k hk;split at e
    ·rename_i y hy;cases e;obtain⟨zs,h1,l1,r1⟩:=t;obtain⟨v,vr,rfl,p,r2⟩:=r;subst r2;subst p;obtain⟨v,h2,h3⟩:=r1.get hy;exact⟨a,zs,i,k,v,rfl,rfl,h1,by simp[*],by simp[*],by rw[←r1.length];exact hk,h2,q _ _ (lx _) (uc mu ha (r1.erase k) (abl (List.length_eraseIdx_le _ _) l1)) (h3.re mu (λb o nb z=>lx _ b o (λy=>nb (y▸ha)) z) λb z=>.inl z)⟩
    ·cases e
   ·cases e
  ·cases e
 ·cases e
end
end L2
namespace L2
section
variable {m:Md}{pos:Pos}
def Jy:fV K (CJ λi j=>.bl (decide (i<j))) .S Xv:=Fc
def Jz:fV K (CJ λi j=>.bl (decide (i<=j))) .S Xw:=Fc
def JA:fV K (CJ λi j=>.bl (decide (j<i))) .S Xx:=Fc
def Sn:fV K (CJ λi j=>.bl (decide (j<=i))) .S Yr:=Fc
theorem ph {W3:List adN}:C3 X G m W3 (λ_=>.stk):=⟨λċ s σ H D I h=>by
 obtain⟨Z,A,ρ,q,f⟩:=h;exact f.elim⟩
def PZ:Ev->R (U×Ev):=λρ=>.ok (.dct [] [],ρ)
theorem md:DE X G (.Dict [] [] pos) false .O PZ:=⟨IS.to λσ H Q h=>by
 obtain⟨Z,A,ρ,q,f⟩:=h;intro a na;have sn:=cD na (.dK []);exact f _ _ (q.same sn) (fU.same sn) (λ_=>⟨rfl,sn⟩) (E3.e q sn ⟨a,rfl,na,[],.inl ⟨[],bD,rfl,rfl⟩,abU _,aU.nil⟩)⟩
end
end L2
namespace L2
def NO (H:Hp)(a:aaL)(y:V)(o:Option V):Prop:=IQ H a y o\/∃es k b,fT H a es/\y=.ref b/\wO H k b/\o=iL es k
def Xy (H:Hp)(a:aaL)(y v:V)(C:Hp->Prop):Prop:=(∃H',Ve H a y v H'/\C H')\/∃es k b,fT H a es/\y=.ref b/\wO H k b/\es.length<=aaf/\∀ep,C (dz H a (DN a ep (j9 es k b v)))
def So (H:Hp)(a:aaL):Prop:=ZF H a\/∃es,fT H a es
section
variable {d:V}{u r:aao}{o:Option V}{A:abd}
theorem JB (I:aG X ċ σ H s)(g:NO H a y o):s.TypeIs (.ref a) "dict":=by
 rcases g with g|⟨es,k,b,g,_⟩
 ·exact AE I g
 ·exact g.typeIs I
theorem Vv (I:aG X ċ σ H s)(d:So H a):s.TypeIs (.ref a) "dict"/\(∀b,Value.ref a=.ref b->∃ob,s.heap.get? b=some ob/\ob.dict=none):=by
 rcases d with d|⟨es,d⟩
 ·obtain⟨x,y,_⟩:=RZ I d;exact⟨x,y⟩
 ·exact⟨d.typeIs I,d.noDict I⟩
theorem Hi (hu:A.units+64<abW)(I:aG X ċ σ H s)(g:NO H a y (some v))(ry:aZ y u)(h:∀w' s',aG X ċ σ H s'->aZ v w'->Q w' s') :
  aaT (aaX X.prog X.w) A (aew (.ref a) u) Q E s:=by
 rcases g with g|⟨es,k,b,g,rfl,kb,e⟩
 ·exact GZ (by lia) I g ry h
 ·cases ry;exact G6 hu I g kb e.symm h
theorem NP (hu:A.units+64<abW)(I:aG X ċ σ H s)(g:NO H a y o)(ry:aZ y u)(h:∀s',aG X ċ σ H s'->Q (.bool (!o.isSome)) s') :
  aaT (aaX X.prog X.w) A (abM .NotIn u (.ref a)) Q E s:=by
 rcases g with g|⟨es,k,b,g,rfl,kb,e⟩
 ·exact Nq (by lia) I g ry h
 ·cases ry;subst e;exact Ny hu I g kb h
theorem Sq (hu:A.units+64<abW)(I:aG X ċ σ H s)(g:NO H a y o)(ry:aZ y u)(rd:aZ d r)(h:∀w' s',aG X ċ σ H s'->aZ (o.getD d) w'->Q w' s') :
  aaT (aaX X.prog X.w) A (call (.builtin "dict.get") [.ref a,u,r]) Q E s:=by
 rcases g with g|⟨es,k,b,g,rfl,kb,e⟩
 ·exact R0 (by lia) I g ry rd h
 ·cases ry;subst e;exact R8 hu I g kb rd h
theorem Hj {C:Hp->Prop}{Q:Unit->aaE->Prop}(hu:A.units+64<abW)(I:aG X ċ σ H s)(g:Xy H a y v C)(ry:aZ y u)(rv:aZ v r)(h:∀H' s',C H'->aG X ċ σ H' s'->Q () s') :
  aaT (aaX X.prog X.w) A (setItem (.ref a) u r) Q E s:=by
 rcases g with⟨H',g,c⟩|⟨es,k,b,g,rfl,kb,hz,e⟩
 ·exact G0 (by lia) I g ry rv λs'=>h H' s' c
 ·cases ry;exact G7 hu I g kb hz rv λep s'=>h _ s' (e ep)
end
def Vw (td ty:TE):TE:=λσ H Q=>td σ H λx H1=>ty σ H1 λy H2=>∃a v,x=.ref a/\NO H2 a y (some v)/\Q v H2
def Yu (f:Bool->Bool):R2:=λy x H Q=>∃a o,x=.ref a/\NO H a y o/\Q (.bl (f o.isSome)) H
def Sr (td ty tx:TE):TE:=λσ H Q=>td σ H λx H1=>∃a,x=.ref a/\So H1 a/\ty σ H1 λy H2=>tx σ H2 λz H3=>∃o,NO H3 a y o/\Q (o.getD z) H3
def Vx (td ty tv:TE):TS:=λD σ H=>tv σ H λv H1=>td σ H1 λx H2=>ty σ H2 λy H3=>∃a,x=.ref a/\Xy H3 a y v λH4=>D.nx σ H4
section
variable {o i e f value:ab6}{pos jR fA μ:Pos}{td ty tv tx:TE}
theorem Fi (hu:X.A.units+64<abW)(ho:PE X o td)(hi:PE X i ty)(hs:Nr i):PE X (.Subscript o i pos) (Vw td ty):=by
 intro ċ s σ H Q I h;refine Nt PySem.F.slot_dict_getitem.lookup hs (fg (ho ċ s σ H _ I h) λu s1 ⟨x,H1,I1,rx,q1⟩=>fg (hi ċ s1 σ H1 _ I1 q1) λiv s2 ⟨y,H2,I2,ry,a,v,ex,g,q2⟩=>?_);subst ex;obtain rfl:u=Value.ref a:=rx;exact⟨JB I2 g,Hi hu I2 g ry λw' s3 I3 Ct=>⟨v,H2,I3,Ct,q2⟩⟩
theorem Hk (hu:X.A.units+64<abW):jT X (abM .NotIn) (Yu not):=by
 intro ċ s σ H y x v u Q I ry rx h;obtain⟨a,o,rfl,g,q⟩:=h;cases rx;exact NP hu I g ry λs' I'=>⟨.bl _,H,I',rfl,q⟩
theorem JC (hu:X.A.units+64<abW)(ho:PE X o td)(he:PE X e ty)(hf:PE X f tx)(m:M2 X o "get" fA e f μ):PE X (.Call (.Attribute o "get" fA) [e,f] [] μ) (Sr td ty tx):=by
 intro ċ s σ H Q I h;refine wpAny_Call_method m.base m.few m.line PySem.F.plainAttrs_dict adp PySem.F.type_dict_get (fg (ho ċ s σ H _ I h) λu s1 ⟨x,H1,I1,rx,a,ex,d,q1⟩=>?_);subst ex;obtain rfl:u=Value.ref a:=rx;obtain⟨t1,t2⟩:=Vv I1 d;refine⟨t1,t2,?_⟩;rw[m.trees];refine aeo rfl (Calls.evalArgs_plain (afs (fg (he ċ s1 σ H1 _ I1 q1) λiv s2 ⟨y,H2,I2,ry,q2⟩=>
  afs (fg (hf ċ s2 σ H2 _ I2 q2) λfv s3 ⟨z,H3,I3,rz,ov,g,q3⟩=>Calls.spliced_nil ?_))))
 exact Sq hu I3 g ry rz λw' s4 I4 Ct=>⟨_,H3,I4,Ct,q3⟩
theorem Fj (hu:X.A.units+64<abW)(ho:PE X o td)(hi:PE X i ty)(hv:PE X value tv)(hs:adO value (some (.Subscript o i jR)) pos.line X.env=pure false) :
  PS X (.Assign [.Subscript o i jR] value pos) (Vx td ty tv):=by
 intro ċ s σ H D I h;refine wpAny_Assign_Subscript (fg (hv ċ s σ H _ I h) λr s1 ⟨v,H1,I1,rv,q1⟩=>fg (ho ċ s1 σ H1 _ I1 q1) λu s2 ⟨x,H2,I2,rx,q2⟩=>fg (hi ċ s2 σ H2 _ I2 q2) λiv s3 ⟨y,H3,I3,ry,a,ex,g⟩=>?_) hs;subst ex;obtain rfl:u=Value.ref a:=rx;exact Hj hu I3 g ry rv λH4 s4 q3 I4=>⟨σ,H4,I4,q3⟩
end
def JD:U->Bool
 | .int _=>true
 | .str _=>true
 |_=>false
mutual
noncomputable def xc:U->Bool
 | .int _=>true
 | .tup us=>A_ us
 |_=>false
noncomputable def A_:List U->Bool
 | []=>true
 |u::us=>xc u&&A_ us
end
def qD:U->Bool
 | .tup us=>A_ us&&decide (AN us<=6)
 |_=>false
def JE:U->Bool
 | .tup _=>true
 |_=>false
def pj (ks:List U)(k:U):Bool:=(JD k&&ks.all JD)||(qD k&&ks.all JE)
noncomputable def fJ:List U->List U->U->Option U
 |k'::ks,u::us,k=>if k'=k then some u else fJ ks us k
 |_,_,_=>none
noncomputable def dP (ks us:List U)(k v:U):List U:=if k∈ks then ack (λk' u=>if k'=k then v else u) ks us else us++[v]
def er (ks:List U)(k:U):List U:=if k∈ks then ks else ks++[k]
mutual
theorem Vy:∀{u:U} {v:V},xc u=true->Rp K H A u v->KH H u v
 | .int i,v,_,h=>by unfold Rp at h;unfold KH;exact h
 | .tup us,v,k,h=>by
  unfold xc at k;unfold Rp at h;unfold KH;obtain⟨a,xs,r,q,l,z⟩:=h;exact⟨a,xs,r,q,l,Dg k z⟩
 | .non,v,k,h=>by unfold xc at k;cases k
 | .bl _,v,k,h=>by unfold xc at k;cases k
 | .str _,v,k,h=>by unfold xc at k;cases k
 | .lst _,v,k,h=>by unfold xc at k;cases k
 | .dct _ _,v,k,h=>by unfold xc at k;cases k
 | .scr _,v,k,h=>by unfold xc at k;cases k
 | .obj _ _,v,k,h=>by unfold xc at k;cases k
theorem Dg:∀{us:List U} {vs:List V},A_ us=true->aU K H A us vs->uB H us vs
 | [],vs,_,h=>by unfold aU at h;unfold uB;exact h
 |u::us,vs,k,h=>by
  unfold A_ at k;rw[aaC] at k;unfold aU at h;unfold uB;obtain⟨x,r,q,p,z⟩:=h;exact⟨x,r,q,Vy k.1 p,Dg k.2 z⟩
end
theorem rK (k:qD (.tup us)=true)(h:Rp K H A (.tup us) v):∃b,v=.ref b/\wO H us b:=by
 unfold qD at k;rw[aaC] at k;obtain⟨a,xs,r,q,l,z⟩:=h;exact⟨a,r,of_decide_eq_true k.2,xs,q,l,Dg k.1 z⟩
theorem P0 (k:JD u=true)(h:Rp K H A u v):∃q:Key,u=kU q/\v=kV q:=by
 cases u<;>first|(cases k)|skip
 ·exact⟨.inl _,rfl,h⟩
 ·exact⟨.inr _,rfl,h⟩
theorem Dh {a b:Key}(h:kU a=kU b):a=b:=by
 grind[kU]
theorem Di {k:Key}:∀{bw:List (Key×V)} {us:List U},aU K H A us (bw.map (·.2))->(∀u,fJ (bw.map λp=>kU p.1) us (kU k)=some u->∃v,sV bw k=some v/\Rp K H A u v)/\(fJ (bw.map λp=>kU p.1) us (kU k)=none->sV bw k=none)
 | [],us,r=>⟨(λu h=>by cases h),λ_=>rfl⟩
 |p::bw,us,r=>by
  cases us with
  |nil=>cases r
  |cons u us=>
   obtain⟨x,rr,e,h1,h2⟩:=r;cases e;rw[aal];unfold fJ;by_cases c:p.1=k
   ·rw[hZ (by rw[c]),oN c];simp[*]
   ·rw[hV (λz=>c (Dh z)),oO c];exact Di h2
theorem Dj {k:List U}:∀{es:List (List U×aaL×V)} {us:List U},aU K H A us (es.map (·.2.2))->(∀u,fJ (es.map λp=>.tup p.1) us (.tup k)=some u->∃v,iL es k=some v/\Rp K H A u v)/\(fJ (es.map λp=>.tup p.1) us (.tup k)=none->iL es k=none)
 | [],us,r=>⟨(λu h=>by cases h),λ_=>rfl⟩
 |p::es,us,r=>by
  cases us with
  |nil=>cases r
  |cons u us=>
   obtain⟨x,rr,e,h1,h2⟩:=r;cases e;rw[aal];unfold fJ iL;rw[acV];by_cases c:p.1=k
   ·simp[*]
   ·rw[hV (λz=>c (lj.mp z)),hJ c];exact Dj h2
theorem JF {k:U}(d:yK H a ks xs)(r:aU K H A us xs)(f:pj ks k=true)(hk:Rp K H A k y) :
  ∃o,NO H a y o/\(∀u,fJ ks us k=some u->∃v,o=some v/\Rp K H A u v)/\(fJ ks us k=none->o=none):=by
 unfold pj at f;rw[ads,aaC,aaC] at f;rcases d with⟨bw,h,e1,e2⟩|⟨es,n,h,e1,e2⟩
 ·rcases f with⟨f1,f2⟩|⟨f1,f2⟩
  ·obtain⟨q,rfl,rfl⟩:=P0 f1 hk;subst e1 e2;exact⟨_,.inl (.inl ⟨bw,q,.inl h,rfl,rfl⟩),(Di r).1,(Di r).2⟩
  ·cases bw with
   |nil=>
    subst e1 e2;cases k<;>first|(cases f1)|skip
    rename_i kk;obtain⟨b,rfl,kt⟩:=rK f1 hk;exact⟨none,.inr ⟨[],kk,b,⟨.inr ⟨rfl,h⟩,ab1,(λe he=>by cases he)⟩,rfl,kt,rfl⟩,(λu z=>by cases z),λ_=>rfl⟩
   |cons p bw=>
    subst e1;rw[aal,ac3,aaC] at f2;obtain⟨p1,p2⟩:=p;cases p1<;>cases f2.1
 ·rcases f with⟨f1,f2⟩|⟨f1,f2⟩
  ·exfalso;subst e1;cases es with
   |nil=>exact n rfl
   |cons p es=>rw[aal,ac3,aaC] at f2;cases f2.1
  ·subst e1 e2;cases k<;>first|(cases f1)|skip
   rename_i kk;obtain⟨b,rfl,kt⟩:=rK f1 hk;exact⟨_,.inr ⟨es,kk,b,h,rfl,kt,rfl⟩,(Dj r).1,(Dj r).2⟩
end L2
namespace L2
theorem aU.snoc (h:aU K H A us vs)(p:Rp K H A u v):aU K H A (us++[u]) (vs++[v]):=h.append (aU.cons p aU.nil)
theorem Vz {k:Key}(bw:List (Key×V)):(bw.any λkv=>decide (kv.1=k))=decide (kU k∈bw.map λp=>kU p.1):=by
 rw[abo,adW,decide_eq_true_eq,aan];constructor
 ·grind
 ·rintro⟨p,h1,h2⟩;exact⟨p,h1,hG (Dh h2)⟩
theorem Fl {k:Key}(bw:List (Key×V))(v:V):qr bw k v=if (bw.any λkv=>decide (kv.1=k))=true then bw.map (λkv=>if kv.1=k then (kv.1,v) else kv) else bw++[(k,v)]:=by
 rfl
theorem Hl {k:Key}(bw:List (Key×V))(v:V):(qr bw k v).map (λp=>kU p.1)=er (bw.map λp=>kU p.1) (kU k):=by
 rw[Fl,Vz];unfold er;by_cases c:kU k∈bw.map λp=>kU p.1
 ·rw[hG c,hZ rfl,hZ c,aat];refine aav λp _=>?_;show kU (if p.1=k then (p.1,v) else p).1=kU p.1;split<;>rfl
 grind
theorem Hm {k:Key}(p:Rp K H A u v){bw:List (Key×V)}(r:aU K H A us (bw.map (·.2))):aU K H A (dP (bw.map λp=>kU p.1) us (kU k) u) ((qr bw k v).map (·.2)):=by
 rw[Fl,Vz];unfold dP;by_cases c:kU k∈bw.map λp=>kU p.1
 ·rw[hG c,hZ c];clear c
  induction bw generalizing us with
  |nil=>
   rfl
  |cons q bw ih=>
   cases us with
   |nil=>cases r
   |cons w us=>
    obtain⟨x,rr,e,h1,h2⟩:=r;cases e;rw[aal,aal,abp];refine aU.cons ?_ (ih h2);by_cases c:q.1=k
    ·simp[*]
    ·rw[hV (λz=>c (Dh z)),hV c];exact h1
 ·rw[hJ c,hV aaB,hV c,aaD];exact r.snoc p
theorem pq {k:List U}:∀(es:List (List U×aaL×V)),(iL es k).isSome=decide (U.tup k∈es.map λp=>U.tup p.1)
 | []=>by simp[iL]
 |e::es=>by
  have ih:=pq (k:=k) es;unfold iL at ih ⊢;rw[acV,aal];by_cases c:e.1=k
  ·rw[hG c,hG (by rw[c];exact aae)];rfl
  ·rw[hJ c];rw[ih,abo,decide_eq_true_eq,decide_eq_true_eq,aaA];constructor
   ·exact .inr
   ·rintro (z|z)
    ·exact absurd (lj.mp z).symm c
    ·exact z
theorem Hn {k:List U}(es:List (List U×aaL×V))(v:V):(j9 es k b v).map (λp=>U.tup p.1)=er (es.map λp=>.tup p.1) (.tup k):=by
 unfold j9 er;rw[pq];by_cases c:U.tup k∈es.map λp=>U.tup p.1
 ·rw[hG c,hZ rfl,hZ c,aat];refine aav λp _=>?_;show U.tup (if p.1=k then (p.1,p.2.1,v) else p).1=.tup p.1;split<;>rfl
 grind
theorem Ho {k:List U}(p:Rp K H A u v)(r:aU K H A us (es.map (·.2.2))):aU K H A (dP (es.map λp=>.tup p.1) us (.tup k) u) ((j9 es k b v).map (·.2.2)):=by
 unfold j9 dP;rw[pq];by_cases c:U.tup k∈es.map λp=>U.tup p.1
 ·rw[hG c,hZ c];clear c
  induction es generalizing us with
  |nil=>
   rfl
  |cons q es ih=>
   cases us with
   |nil=>cases r
   |cons w us=>
    obtain⟨x,rr,e,h1,h2⟩:=r;cases e;rw[aal,aal,abp];refine aU.cons ?_ (ih h2);lia
 ·rw[hJ c,hV aaB,hV c,aaD];exact r.snoc p
theorem NQ {k:List U}(h:(es.map (·.1)).Nodup):((j9 es k b v).map (·.1)).Nodup:=by
 unfold j9;split
 ·rw[aat];have:es.map ((λx=>x.1)∘λe=>if e.1=k then (e.1,e.2.1,v) else e)=es.map (·.1):=aav λe _=>by
   show (if e.1=k then (e.1,e.2.1,v) else e).1=e.1;split<;>rfl
  rw[this];exact h
 ·rename_i c;rw[aaD,aal];refine abO.mpr ⟨h,by simp,?_⟩;intro x hx y hy e;rw[aau.mp hy] at e;subst e;rw[pq] at c;grind
theorem JG {k:List U}(h:∀e∈es,wO H e.1 e.2.1)(kb:wO H k b):∀e∈j9 es k b v,wO H e.1 e.2.1:=by
 unfold j9;grind
theorem NR {k:List U}:j9 es k b v≠[]:=by
 unfold j9;split
 ·rename_i c;intro z;cases es with
  |nil=>cases c
  |cons e es=>cases z
 ·simp
theorem JH {k v:U}(h:ks.length=us.length):(dP ks us k v).length<=us.length+1:=by
 unfold dP;split
 ·rw[ad1];lia
 ·rw[aay];exact aaq _
theorem yK.len (d:yK H a ks xs)(r:aU K H A us xs):ks.length=us.length:=by
 rcases d with⟨bw,_,rfl,rfl⟩|⟨es,_,_,rfl,rfl⟩
 ·rw[r.length,aaa,aaa]
 ·rw[r.length,aaa,aaa]
theorem Ss {k w:U}(mu:∀a,A a->Mu (H a))(ha:A a)(d:yK H a ks xs)(r:aU K H A us xs)(f:pj ks k=true)(hk:Rp K H A k y)(hw:Rp K H A w v)(hl:us.length<aaf){C:Hp->Prop}(hC:∀H',(∀b o,b≠a->H b=some o->H' b=some o)->nG K H' A (.dct (er ks k) (dP ks us k w)) a->C H'):Xy H a y v C:=by
 have ln:=d.len r;have l2:(dP ks us k w).length<=aaf:=abl (JH ln) hl;have nt:∀b ys,H b=some (.tup ys)->b≠a:=λb ys h e=>by
  subst e;have:=mu b ha;rw[h] at this;exact this
 have fin:∀(o:HO) (zs:List V),yK _ a _ zs->aU K H A _ zs->nG K (dz H a o) A (.dct (er ks k) _) a:=λo zs d' r'=>
  ⟨zs,d',l2,r'.re mu (λb o' nb z=>lx _ b o' (λy=>nb (y▸ha)) z) λb z=>.inl z⟩
 have W4:∀(es:List _) (kk:List U) (b:aaL),fT H a es->wO H kk b->k=.tup kk->y=.ref b->ks=es.map (λp=>.tup p.1)->xs=es.map (·.2.2)->Xy H a y v C:=by
  rintro es kk b h kt rfl rfl rfl rfl;have le:es.length=us.length:=by grind
  refine .inr ⟨es,kk,b,h,rfl,kt,by lia,λep=>hC _ (lx _) (fin _ _ (.inr ⟨j9 es kk b v,NR,?_,(Hn es v).symm,rfl⟩) (Ho hw r))⟩;have tp:∀c ys,H c=some (.tup ys)->dz H a (DN a ep (j9 es kk b v)) c=some (.tup ys):=λc ys hc=>by rw[bB (nt c ys hc)];exact hc
  exact⟨.inl ⟨ep,bD⟩,NQ h.nd,λe he=>(JG h.key kt e he).to tp⟩
 unfold pj at f;rw[ads,aaC,aaC] at f;rcases d with⟨bw,h,e1,e2⟩|⟨es,n,h,e1,e2⟩
 ·rcases f with⟨f1,f2⟩|⟨f1,f2⟩
  ·obtain⟨q,rfl,rfl⟩:=P0 f1 hk;subst e1 e2;have lk:bw.length=us.length:=by grind
   exact .inl ⟨_,.inl ⟨bw,q,h,rfl,by lia,rfl⟩,hC _ (lx _) (fin _ _ (.inl ⟨_,bD,(Hl bw v).symm,rfl⟩) (Hm hw r))⟩
  ·cases bw with
   |nil=>
    subst e1 e2;cases k<;>first|(cases f1)|skip
    rename_i kk;obtain⟨b,rfl,kt⟩:=rK f1 hk;exact W4 [] kk b ⟨.inr ⟨rfl,h⟩,ab1,(λe he=>by cases he)⟩ kt rfl rfl rfl rfl
   |cons p bw=>
    subst e1;rw[aal,ac3,aaC] at f2;obtain⟨p1,p2⟩:=p;cases p1<;>cases f2.1
 ·rcases f with⟨f1,f2⟩|⟨f1,f2⟩
  ·exfalso;subst e1;cases es with
   |nil=>exact n rfl
   |cons p es=>rw[aal,ac3,aaC] at f2;cases f2.1
  ·cases k<;>first|(cases f1)|skip
   rename_i kk;obtain⟨b,rfl,kt⟩:=rK f1 hk;exact W4 es kk b h kt rfl rfl e1 e2
section
variable {o i e f value:ab6}{pos jR fA μ p1 p2:Pos}{b1 b2 b3:Bool}{m m1 m2 m3:Md}{g1 g2 g3:Ev->R (U×Ev)}{y:Str}
def Ba:U->U->R U:=λu w=>match u with
 | .dct ks us=>if pj ks w=true then (match fJ ks us w with
  |some z=>.ok z
  |none=>.stk) else .stk
 |_=>.stk
theorem VA (h:Pk K H A u v)(c:JD u=true\/JE u=true):Rp K H A u v:=by
 cases u<;>first|(rcases c with c|c<;>cases c;done)|(exact h)
theorem NU {k:U}(f:pj ks k=true):JD k=true\/JE k=true:=by
 unfold pj at f;rw[ads,aaC,aaC] at f;rcases f with⟨f,_⟩|⟨f,_⟩
 ·exact .inl f
 ·cases k<;>first|(cases f)|exact .inr rfl
theorem Su (hu:X.A.units+64<abW)(ha:DE X G o b1 m1 g1)(hb:DE X G i b2 m2 g2)(hs:Nr i:=by intro _ _;rfl)(hm:m1=.P->b2=false:=by first|exact λ_=>rfl|exact λh=>nomatch h):DE X G (.Subscript o i pos) (b1||b2) .S (aR Ba g1 g2):=⟨(Fi hu ha.un hb.un hs).to λσ H Q h=>by
 have hp:fV X.K (λx y H Q=>∃a v,x=.ref a/\NO H a y (some v)/\Q v H) .S Ba:=λA H x y u w z Q hx hy mu e q=>by
  unfold Ba at e;split at e;rotate_left
  ·cases e
  split at e
  ·rename_i fk;split at e
   ·rename_i z' hz;cases e;obtain⟨a,xs,rfl,d,l,r⟩:=hx;obtain⟨ov,g,q1,_⟩:=JF d r fk (VA hy (NU fk));obtain⟨v,rfl,rp⟩:=q1 _ hz;exact⟨a,v,rfl,g,q v H (aO.refl _) rp⟩
   ·cases e
  ·cases e
 exact oU hp hm h⟩
def lA (i:Nat)(g2 g3:Ev->R (U×Ev)):Ev->R (U×Ev):=λρ=>match ρ[i]? with
 |some (some (.dct _ _))=>(g2 ρ).bind λk=>(g3 k.2).bind λx=>match x.2[i]? with
  |some (some (.dct ks us))=>if pj ks k.1=true then .ok ((fJ ks us k.1).getD x.1,x.2) else .stk
  |_=>.stk
 |_=>.stk
theorem NV {K:aam}(d:yK H a ks xs):So H a:=by
 rcases d with⟨bw,h,_⟩|⟨es,_,h,_⟩
 ·exact .inl (.inl ⟨bw,.inl h⟩)
 ·exact .inr ⟨es,h⟩
theorem xP (q:dh K G Z A ρ σ H)(h:ρ[j]? = some (some (.dct ks us))):∃a xs,σ[j]? = some (some (.ref a))/\yK H a ks xs/\us.length<=aaf/\aU K H A us xs:=by
 obtain⟨v,h1,h2⟩:=q.slot j _ h;by_cases c:G.is j=true
 ·rw[hZ c] at h2;obtain⟨a,rfl,_,_,_,t⟩:=h2;obtain⟨xs,d,l,r⟩:=t;exact⟨a,xs,h1,d,l,r⟩
 ·rw[hV c] at h2;obtain⟨a,xs,rfl,_,d,l,r⟩:=h2;exact⟨a,xs,h1,d,l,r⟩
theorem uQ (hu:X.A.units+64<abW)(he:DE X G e b1 m1 g1)(hf:DE X G f b2 m2 g2)(n1:m1≠.P:=by decide)(n2:m2≠.P:=by decide)(hN:X.N[j]? = some y:=by rfl)(hv:EM X.env.scope y:=by first|exact Or.inl rfl|exact Or.inr (Or.inl rfl)|exact Or.inr (Or.inr rfl))(hd:(y==("__debug__":Str))=false:=by decide)(nE:(y==("__classdict__":Str))=false:=by decide)(M:M2 X (.Name y p1) "get" fA e f μ:=by exact⟨rfl,rfl,rfl,rfl⟩):DE X G (.Call (.Attribute (.Name y p1) "get" fA) [e,f] [] μ) (b1||b2) .S (lA j g1 g2):=⟨(JC hu (iV hN hv hd nE) he.un hf.un M).to λσ H Q h=>by
 obtain⟨Z,A,ρ,q,f⟩:=h;unfold lA at f;split at f
 ·rename_i ks0 us0 h0;obtain⟨a,xs0,s0,d0,_,_⟩:=xP q h0;obtain⟨⟨k,η⟩,e1,f⟩:=f.bind;obtain⟨⟨x,ν⟩,e2,f⟩:=f.bind;split at f
  ·rename_i ks us h2;split at f
   ·rename_i fk;refine⟨.ref a,s0,a,rfl,NV (K:=X.K) d0,Z,A,ρ,q,?_⟩;rw[e1];intro v1 H1 q1 x1 s1 sP;refine⟨Z,A,η,q1,?_⟩;rw[e2];intro v2 H2 q2 x2 s2 rA;obtain⟨a',xs,ÿ,d,_,r⟩:=xP q2 h2;rw[s0] at ÿ;cases ÿ;obtain⟨ov,g,z1,z2⟩:=JF d r fk (sP.laterS q1 x2 n1);refine⟨ov,g,f _ H2 q2 (x1.trans x2) (two s1 s2) ?_⟩;cases hz:fJ ks us k with
    |none=>rw[z2 hz];exact rA.rp n2
    |some w=>obtain⟨v,rfl,rp⟩:=z1 _ hz;exact rp
   ·exact f.elim
  ·exact f.elim
 ·exact f.elim⟩
def om (i:Nat)(gv gk:Ev->R (U×Ev)):Ev->SR:=λρ=>SR.of (gv ρ) λx=>if live x.2 i=true then SR.of (gk x.2) λy=>match y.2[i]? with
 |some (some (.dct ks us))=>if pj ks y.1=true/\us.length<aaf then .nx (y.2.set i (some (.dct (er ks y.1) (dP ks us y.1 x.1)))) else .stk
 |_=>.stk
 else .stk
theorem yW (hu:X.A.units+64<abW)(hv:DE X G value b1 m1 g1)(hk:DE X G i b2 m2 g2)(n1:m1≠.P:=by decide)(n2:m2≠.P:=by decide)(hN:X.N[j]? = some y:=by rfl)(hvi:EM X.env.scope y:=by first|exact Or.inl rfl|exact Or.inr (Or.inl rfl)|exact Or.inr (Or.inr rfl))(c:G.is j=true:=by rfl)(hd:(y==("__debug__":Str))=false:=by decide)(nE:(y==("__classdict__":Str))=false:=by decide)(hs:adO value (some (.Subscript (.Name y p1) i jR)) pos.line X.env=pure false:=by rfl):DS X G m (.Assign [.Subscript (.Name y p1) i jR] value pos) (om j g1 g2):=⟨(Fj hu (iV hN hvi hd nE) hk.un hv.un hs).to λD σ H θ=>by
 obtain⟨Z,A,ρ,q,f⟩:=θ;obtain⟨⟨w,η⟩,e1,f⟩:=f.of;refine⟨Z,A,ρ,q,?_⟩;rw[e1];intro v H1 q1 x1 s1 vm;split at f
 ·rename_i hl;obtain⟨é,Ξ⟩:=yO hl;obtain⟨a0,h0,_⟩:=q1.own c Ξ;obtain⟨⟨k,ν⟩,e2,f⟩:=f.of;refine⟨.ref a0,h0,Z,A,η,q1,?_⟩;rw[e2];intro v2 H2 q2 x2 s2 rA;split at f
  ·rename_i ks us ô;split at f
   ·rename_i fk;obtain⟨ç,k1,k2,_,_,k5⟩:=q2.own c ô;rw[h0] at k1;cases k1;obtain⟨xs,d,_,r⟩:=k5;exact⟨a0,rfl,Ss q2.mu k2 d r fk.1 (rA.rp n2) ((vm.rp n1).re q1.mu x2 λb z=>.inl z) fk.2 λH' em t=>f A σ H' (q2.put c ô h0 em t)⟩
   ·exact f.elim
  ·exact f.elim
 ·exact f.elim⟩
end
end L2
namespace Hc.Sx
open PySem.SetTable
def kg:Nat->Nat
 |0=>0
 |n+1=>5*kg n+1
theorem Fm (n:Nat):5 ^ n=4*kg n+1:=by
 induction n with
 |zero=>rfl
 |succ n ih=>rw[ac0,ih];show _=4*(5*kg n+1)+1;lia
theorem NW (m n:Nat):kg (m+n)=5 ^ n*kg m+kg n:=by
 induction n with
 |zero=>simp[kg]
 |succ n ih=>
  show 5*kg (m+n)+1=5 ^ (n+1)*kg m+(5*kg n+1);rw[ih,ac0,abN (5 ^ n) 5,abP];lia
theorem NY (n:Nat):kg n % 2=n % 2:=by
 induction n with
 |zero=>rfl
 |succ n ih=>unfold kg;lia
theorem NZ (d:Nat):kg (d+d)=kg d*(2*(2*kg d+1)):=by
 rw[NW,Fm];lia
theorem ZG (k q:Nat):Nat.Coprime (2 ^ k) (2*q+1):=by
 refine Nat.Coprime.pow_left k ?_;unfold Nat.Coprime;simp
theorem Fo:∀(k d:Nat),2 ^ k ∣ kg d->2 ^ k ∣ d
 |0,d,_=>⟨d,by simp⟩
 |k+1,d,h=>by
  have e:d % 2=0:=by
   rw[←NY];obtain⟨c,hc⟩:=h;grind
  obtain⟨d',rfl⟩:∃d',d=d'+d':=⟨d / 2,by lia⟩;rw[NZ,ac0,abN (2 ^ k) 2,aeA (kg d') 2] at h;have h1:=Nat.dvd_of_mul_dvd_mul_left (by decide) h;have h2:=aem (ZG k _) h1;obtain⟨c,hc⟩:=Fo k d' h2;exact⟨c,by rw[ac0,abP,aeA,←hc];lia⟩
def xQ (M x:Nat):Nat->Nat
 |0=>x
 |n+1=>(xQ M x n*5+1) % M
theorem Fp (M x:Nat):∀n,xQ M x n % M=(5 ^ n*x+kg n) % M
 |0=>by simp[xQ,kg]
 |n+1=>by
  unfold xQ kg;rw[Nat.mod_mod,ac0,abN (5 ^ n) 5,abP];have:=Fp M x n;rw[Nat.add_mod,Nat.mul_mod,this,←Nat.mul_mod,←Nat.add_mod];lia
theorem yX (M x m:Nat):∀n,xQ M x (m+n)=xQ M (xQ M x m) n
 |0=>rfl
 |n+1=>by
  show (xQ M x (m+n)*5+1) % M=_;rw[yX M x m n];rfl
theorem JI {M x:Nat}(h:x<M):∀n,xQ M x n<M
 |0=>h
 |n+1=>acW _ (by lia)
theorem JJ {x:Nat}(hx:x<2 ^ k)(h:xQ (2 ^ k) x d=x):2 ^ k ∣ d:=by
 have e:=Fp (2 ^ k) x d;rw[h,Fm,Nat.add_mul] at e;have h2:2 ^ k ∣ kg d*(2*(2*x)+1):=by
  have:kg d*(2*(2*x)+1)=4*kg d*x+kg d:=by
   lia
  rw[this];have e2:(x+(4*kg d*x+kg d)) % 2 ^ k=x % 2 ^ k:=by lia
  have e3:((4*kg d*x+kg d)) % 2 ^ k=0:=by
   have:=(Nat.mod_eq_mod_iff).mp e2;obtain⟨a,b,CC⟩:=this;have:4*kg d*x+kg d+2 ^ k*a=2 ^ k*b:=by rw[abN _ a,abN _ b];lia
   have h3:=(Nat.dvd_add_right (Nat.dvd_mul_right (2 ^ k) a)).mp (by rw[afz,this];exact Nat.dvd_mul_right _ _);exact Nat.mod_eq_zero_of_dvd h3
  exact Nat.dvd_of_mod_eq_zero e3
 exact Fo k d (aem (ZG k _) h2)
theorem N0 {x a b:Nat}(hx:x<2 ^ k)(ha:a<2 ^ k)(hb:b<2 ^ k)(h:xQ (2 ^ k) x a=xQ (2 ^ k) x b):a=b:=by
 have key:∀a b,a<=b->b<2 ^ k->xQ (2 ^ k) x a=xQ (2 ^ k) x b->a=b:=λa b CC hb h=>by
  obtain⟨d,rfl⟩:∃d,b=a+d:=⟨b-a,by lia⟩;rw[yX] at h;have:=JJ (JI hx a) h.symm;have:=Nat.eq_zero_of_dvd_of_lt this (by lia);lia
 rcases Nat.le_total a b with z|z
 ·exact key a b z hb h
 ·exact (key b a z ha h.symm).symm
theorem N1 {x y:Nat}(hx:x<2 ^ k)(hy:y<2 ^ k):∃n,n<2 ^ k/\xQ (2 ^ k) x n=y:=by
 refine ab2 λhn=>?_;have nd:((aax (2 ^ k)).map (xQ (2 ^ k) x)).Nodup:=by
  unfold afZ;rw[ach];refine acX (λ{a b} ha hb CC e=>?_) adX;exact CC (N0 hx (aaH.mp ha) (aaH.mp hb) e)
 have:=ac1
  (abe.mpr ⟨λh=>by
   obtain⟨n,h1,h2⟩:=aan.mp h;exact hn ⟨n,aaH.mp h1,h2⟩,nd⟩)
  (λz hz=>by
   rcases aaA.mp hz with e|hz
   ·rw[e];exact aaH.mpr hy
   ·obtain⟨n,_,rfl⟩:=aan.mp hz;exact aaH.mpr (JI hx n))
 rw[aaw,aaa] at this;lia
def ic (mask:Nat):Nat->Nat×Nat->Nat×Nat
 |0,p=>p
 |n+1,p=>ic mask n (leap mask p.1 p.2)
theorem xR (mask m n:Nat)(p:Nat×Nat):ic mask (m+n) p=ic mask n (ic mask m p):=by
 induction m generalizing p with
 |zero=>rw[abw];rfl
 |succ m ih=>rw[Nat.succ_add];exact ih _
theorem xS (mask:Nat):∀(n i q:Nat),(ic mask n (i,q)).2=q / 32 ^ n
 |0,i,q=>by simp[ic]
 |n+1,i,q=>by
  show (ic mask n _).2=_;unfold leap;rw[xS,Nat.div_div_eq_div_mul,ac0,abN 32]
theorem Bb (mask:Nat):∀(n i q:Nat),i<=mask->(ic mask n (i,q)).1<=mask
 |0,i,q,h=>h
 |n+1,i,q,h=>Bb mask n _ _ (acA (acW _ (adt _)))
theorem uR (mask:Nat):∀(n i:Nat),ic mask n (i,0)=(xQ (mask+1) i n,0)
 |0,i=>rfl
 |n+1,i=>by
  rw[afz n 1,xR];show ic mask n (leap mask i 0)=_;rw[show leap mask i 0=(xQ (mask+1) i 1,0) by rfl,uR,yX]
theorem xT (hm:mask+1=2 ^ k){q y:Nat}(hi:i<=mask)(hq:q<2 ^ 64)(hy:y<=mask):∃n,n<mask+14/\(ic mask n (i,q)).1=y:=by
 have z:(ic mask 13 (i,q)).2=0:=by
  rw[xS];exact Nat.div_eq_of_lt (adn hq (by decide))
 have e:ic mask 13 (i,q)=((ic mask 13 (i,q)).1,0):=by rw[←z]
 obtain⟨n,h1,h2⟩:=N1 (y:=y) (by rw[←hm];exact Nat.lt_succ_of_le (Bb mask 13 i q hi)) (by lia);refine⟨13+n,by lia,?_⟩;rw[xR,e,uR,hm];exact h2
end Hc.Sx
namespace Hc.Sx
open PySem.SetTable
def VB (xs:Array Nat):Prop:=∀i j (hi:i<xs.size) (hj:j<xs.size),i<j->xs[i]<xs[j]
theorem uS {xs:Array Nat}{j:Nat}(hr:VB xs):∀(ο lo hi:Nat),lo<=hi->hi<=xs.size->hi-lo<=ο->(∀i (h:i<xs.size),i<lo->xs[i]<j)->(∀i (h:i<xs.size),hi<=i->j<=xs[i])->
  (∀i (h:i<xs.size),i<below.go xs j ο lo hi->xs[i]<j)/\(∀i (h:i<xs.size),below.go xs j ο lo hi<=i->j<=xs[i])/\below.go xs j ο lo hi<=xs.size
 |0,lo,hi,h1,h2,h3,a,b=>by
  have:lo=hi:=by lia
  subst this;exact⟨a,b,h2⟩
 |ο+1,lo,hi,h1,h2,h3,a,b=>by
  unfold below.go;by_cases c:lo<hi
  ·rw[hZ c];dsimp only;have hm:(lo+hi) / 2<xs.size:=by lia
   have hd:xs.getD ((lo+hi) / 2) j=xs[(lo+hi) / 2]:=by simp[hm]
   rw[hd];by_cases c2:xs[(lo+hi) / 2]<j
   ·rw[hZ c2];refine uS hr ο _ hi (by lia) h2 (by lia) (λi h Ap=>?_) b;rcases acz i _ with z|z
    ·exact adn (hr _ _ h hm z) c2
    ·have:i=(lo+hi) / 2:=by lia
     subst this;exact c2
   ·rw[hV c2];refine uS hr ο lo _ (by lia) (by lia) (by lia) a (λi h Ap=>?_);rcases acz _ i with z|z
    ·have:=hr _ _ hm h z;lia
    grind
  ·rw[hV c];have:lo=hi:=by lia
   subst this;exact⟨a,b,h2⟩
theorem pA {xs:Array Nat}(hr:VB xs):(∀i (h:i<xs.size),i<below xs j->xs[i]<j)/\(∀i (h:i<xs.size),below xs j<=i->j<=xs[i])/\below xs j<=xs.size:=
 uS hr _ _ _ (abU _) (aaq _) (by lia) (λi _ h=>by lia) (λi h h'=>by lia)
theorem JK {xs:Array Nat}(hr:VB xs)(h:xs[i]? = some j):below xs j=i:=by
 obtain⟨hi,e⟩:=abm.mp h;obtain⟨a,b,c⟩:=pA (j:=j) hr;rcases afO (below xs j) i with z|z|z
 ·have h1:=b _ (by lia) (aaq _);have h2:=hr _ _ (by lia) hi z;lia
 ·exact z
 ·have:=a i hi z;simp_all
variable {V:Type}
structure Fq (t:ad_)(es:Array (Int×V))(C:Nat->Option (Int×V)):Prop where
 ris:VB t.place
 sz:t.place.size=es.size
 dum:t.dummies=#[]
 pow:∃k,t.mask+1=2 ^ k
 room:es.size<=t.mask
 top:∀(i j:Nat),t.place[i]? = some j->j<=t.mask
 con:∀(j:Nat) (e:Int×V),C j=some e↔∃i:Nat,t.place[i]? = some j/\es[i]? = some e
section
variable {es:Array (Int×V)}{C:Nat->Option (Int×V)}
theorem Bc {xs:Array Nat}(h:xs=#[])(j:Nat):has xs j=false:=by subst h;rfl
theorem Fq.live (T:Fq t es C){e:Int×V}(h:C j=some e):∃i,t.slot j=.live i/\es[i]? = some e/\t.place[i]? = some j:=by
 obtain⟨i,h1,h2⟩:=(T.con j e).mp h;refine⟨i,?_,h2,h1⟩;unfold SetTable.slot;dsimp only;rw[JK T.ris h1,h1];simp
theorem Fq.empty (T:Fq t es C)(h:C j=none):t.slot j=.empty:=by
 unfold SetTable.slot;dsimp only;have n:(t.place[below t.place j]? == some j)=false:=by
  rw[adI];intro c;have c:=by simpa using c
  have hi:=(abm.mp c).1;have Rm:below t.place j<es.size:=by rw[←T.sz];exact hi
  have:=aaR Rm;rw[(T.con j _).mpr ⟨_,c,this⟩] at h;cases h
 rw[n,Bc T.dum];rfl
theorem Fq.free (T:Fq t es C):∃y,y<=t.mask/\C y=none:=by
 refine ab2 λhn=>?_;have hs:=T.sz;have hr:=T.room;have:=ac1 (l₁:=aax (t.mask+1)) (l₂:=t.place.toList) adX (λy hy=>by
  have hy:=aaH.mp hy;cases e:C y with
  |none=>exact absurd ⟨y,by lia,e⟩ hn
  |some v=>
   obtain⟨i,h1,_⟩:=(T.con y v).mp e;have:=Array.mem_of_getElem? h1;simpa using this)
 rw[aaJ,aaY] at this;lia
end
noncomputable def adv (mask:Nat)(p:Probe):Probe:=
 if p.more>0 then {p with j:=p.j+1,more:=p.more-1} else
 {p with j:=(leap mask p.i p.perturb).1,more:=runEnd mask (leap mask p.i p.perturb).1-(leap mask p.i p.perturb).1,i:=(leap mask p.i p.perturb).1,perturb:=(leap mask p.i p.perturb).2}
def advs (mask:Nat):Nat->Probe->Probe
 |0,p=>p
 |n+1,p=>advs mask n (adv mask p)
theorem jt (mask m n:Nat)(p:Probe):advs mask (m+n) p=advs mask n (advs mask m p):=by
 induction m generalizing p with
 |zero=>rw[abw];rfl
 |succ m ih=>rw[Nat.succ_add];exact ih _
theorem xU (mask n:Nat)(p:Probe):advs mask (n+1) p=adv mask (advs mask n p):=by rw[jt];rfl
structure mf (mask:Nat)(p:Probe):Prop where
 i:p.i<=mask
 q:p.perturb<2 ^ 64
 m:p.more<=9
 d:p.dummy=none
theorem qE (mask i:Nat):runEnd mask i-i<=9:=by unfold runEnd;split<;>lia
theorem mf.adv {p:Probe}(h:mf mask p):mf mask (adv mask p):=by
 unfold Hc.Sx.adv;split
 ·exact⟨h.i,h.q,by have:=h.m;(simp;lia),h.d⟩
 ·refine⟨acA (acW _ (adt _)),?_,qE _ _,h.d⟩;exact ab8 (Nat.div_le_self _ _) h.q
theorem mf.advs {mask:Nat}:∀(n:Nat) {p:Probe},mf mask p->mf mask (advs mask n p)
 |0,_,h=>h
 |n+1,_,h=>mf.advs n h.adv
theorem Ft (h:Int):bits h<2 ^ 64:=by
 unfold bits;(simp;lia)
theorem mf.start (t:ad_)(h:Int):mf t.mask (t.probeStart h):=
 ⟨acA (acW _ (adt _)),Ft h,qE _ _,rfl⟩
theorem uT {mask:Nat}:∀(n:Nat) {p:Probe},p.more=n->(advs mask (n+1) p).j=(leap mask p.i p.perturb).1/\(advs mask (n+1) p).i=(leap mask p.i p.perturb).1/\(advs mask (n+1) p).perturb=(leap mask p.i p.perturb).2/\(advs mask (n+1) p).more<=9
 |0,p,e=>by
  show (adv mask p).j=_/\(adv mask p).i=_/\(adv mask p).perturb=_/\(adv mask p).more<=9;unfold adv;rw[hV (by lia)];exact⟨rfl,rfl,rfl,qE _ _⟩
 |n+1,p,e=>by
  have:=uT (mask:=mask) n (p:=adv mask p) (by simp_all[adv,hZ]);have e1:(adv mask p).i=p.i/\(adv mask p).perturb=p.perturb:=by unfold adv;rw[hZ (by lia)];exact⟨rfl,rfl⟩
  rw[e1.1,e1.2] at this;exact this
theorem rL {mask:Nat}:∀(n:Nat) {p:Probe},mf mask p->∃m,m<=10*(n+1)/\(advs mask m p).j=(ic mask (n+1) (p.i,p.perturb)).1
 |0,p,h=>by
  obtain⟨a,_⟩:=uT p.more rfl;exact⟨p.more+1,by have:=h.m;simp[*],a⟩
 |n+1,p,h=>by
  obtain⟨a,b,c,d⟩:=uT p.more rfl;obtain⟨m,h1,h2⟩:=rL n (mf.advs _ h);refine⟨p.more+1+m,by have:=h.m;lia,?_⟩;rw[jt,h2,b,c];rfl
theorem xV (hm:mask+1=2 ^ k){p:Probe}(h:mf mask p){y:Nat}(hy:y<=mask):∃m,m<10*turns mask/\(advs mask m p).j=y:=by
 obtain⟨n,h1,h2⟩:=xT hm (acA (acW _ (adt _))) (ab8 (Nat.div_le_self _ _) h.q) hy;obtain⟨m,h3,h4⟩:=rL n h;refine⟨m,by unfold turns;lia,?_⟩;rw[h4];exact h2
section
variable {es:Array (Int×V)}{C:Nat->Option (Int×V)}{hashAt:Nat->Int}
theorem Fu (T:Fq t es C)(hh:∀i e,es[i]? = some e->hashAt i=e.1)(h:Int):∀(m ο:Nat) (p:Probe),mf t.mask p->m<ο->C (advs t.mask m p).j=none->
    ∃m',m'<=m/\(∀a,a<m'->∃e,C (advs t.mask a p).j=some e/\e.1≠h)/\
      ((C (advs t.mask m' p).j=none/\probe.go t hashAt h ο p=some (.empty (advs t.mask m' p).j none)) \/
       ∃e i,C (advs t.mask m' p).j=some e/\e.1=h/\es[i]? = some e/\t.place[i]? = some (advs t.mask m' p).j/\probe.go t hashAt h ο p=some (.candidate (advs t.mask m' p).j i (advs t.mask (m'+1) p)))
  |m,0,p,_,hf,_=>by lia
  |m,ο+1,p,hp,hf,he=>by
    unfold probe.go;cases c:C p.j with
    |none=>
      refine⟨0,abU _,λa ha=>by lia,.inl ⟨c,?_⟩⟩;rw[T.empty c];rw[hp.d];rfl
    |some e=>
      obtain⟨i,h1,h2,h3⟩:=T.live c;rw[h1];dsimp only;rw[hh i e h2];by_cases q:e.1=h
      · refine⟨0,abU _,λa ha=>by lia,.inr ⟨e,i,c,q,h2,h3,?_⟩⟩;rw[hZ (by rw[q];simp)];rfl
      · rw[hV (by simpa using q)];cases m with
        |zero=>rw[show advs t.mask 0 p=p from rfl,c] at he;cases he
        |succ m=>
          obtain⟨m',g1,g2,g3⟩:=Fu T hh h m ο _ hp.adv (by lia) he;refine⟨m'+1,by lia,λa ha=>?_,g3⟩;cases a with
          |zero=>exact⟨e,c,q⟩
          |succ a=>exact g2 a (by lia)
theorem Dk (T:Fq t es C)(hh:∀i e,es[i]? = some e->hashAt i=e.1)(h:Int){p:Probe}(hp:mf t.mask p) :
    ∃m',(∀a,a<m'->∃e,C (advs t.mask a p).j=some e/\e.1≠h)/\
      ((C (advs t.mask m' p).j=none/\t.probe hashAt h p=some (.empty (advs t.mask m' p).j none)) \/
       ∃e i,C (advs t.mask m' p).j=some e/\e.1=h/\es[i]? = some e/\t.place[i]? = some (advs t.mask m' p).j/\t.probe hashAt h p=some (.candidate (advs t.mask m' p).j i (advs t.mask (m'+1) p))):=by
  obtain⟨y,hy,hc⟩:=T.free;obtain⟨k,hk⟩:=T.pow;obtain⟨m,h1,h2⟩:=xV hk hp hy;obtain⟨m',_,g2,g3⟩:=Fu T hh h m _ p hp h1 (by rw[h2];exact hc);exact⟨m',g2,g3⟩
end
end Hc.Sx
namespace Hc.Sx
open PySem.SetTable
theorem kh {α:Type}(xs:Array α)(p:Nat)(x:α):(insertAt xs p x).toList=xs.toList.take p++x::xs.toList.drop p:=by
 unfold insertAt;simp[Array.toList_extract];exact aeq (by simp)
theorem cy {α:Type}{xs:Array α}{x:α}(h:p<=xs.size)(i:Nat):(insertAt xs p x)[i]? = if i<p then xs[i]? else if i=p then some x else xs[i-1]? := by
 rw[←aa0,kh];grind
theorem iH {α:Type}{xs:Array α}{x:α}(h:p<=xs.size):(insertAt xs p x).size=xs.size+1:=by
 grind[aaY,kh,aay,aaw,aa2,acd]
variable {V:Type}
noncomputable def Uz (C:Nat->Option (Int×V))(j:Nat)(e:Int×V):Nat->Option (Int×V):=λy=>if y=j then some e else C y
def P2 (mask:Nat)(st:Int->Probe)(C:Nat->Option (Int×V)):Prop:=∀(j:Nat) (e:Int×V),C j=some e->∃n,(advs mask n (st e.1)).j=j/\∀m,m<n->∃e',C (advs mask m (st e.1)).j=some e'
section
variable {es:Array (Int×V)}{C:Nat->Option (Int×V)}
theorem Fq.put (T:Fq t es C){e:Int×V}(hj:j<=t.mask)(hc:C j=none)(hr:es.size+1<=t.mask) :
  Fq (t.put j).1 (insertAt es (t.put j).2 e) (Uz C j e)/\(t.put j).1.mask=t.mask/\(t.put j).1.plain=t.plain/\(t.put j).1.led=t.led/\(t.put j).1.moves=t.moves/\(t.put j).1.finger=t.finger:=by
 obtain⟨a,b,c⟩:=pA T.ris;have nz:∀i,t.place[i]? ≠ some j:=λi h=>by
  have hi:=(abm.mp h).1;have Rm:i<es.size:=by rw[←T.sz];exact hi
  rw[(T.con j es[i]).mpr ⟨i,h,aaR Rm⟩] at hc;cases hc
 have ep:(t.put j).1={t with place:=insertAt t.place (below t.place j) j}:=by
  unfold SetTable.put;rw[Bc T.dum];rfl
 have e2:(t.put j).2=below t.place j:=rfl;have c2:below t.place j<=es.size:=by rw[←T.sz];exact c
 rw[ep,e2];refine⟨⟨?_,?_,T.dum,T.pow,?_,?_,?_⟩,rfl,rfl,rfl,rfl,rfl⟩
 ·intro i i' hi Ap lt;have g:=λx=>cy (x:=j) c x;have e1:=g i;have Cu:=g i';rw[aaR hi] at e1;rw[aaR Ap] at Cu;rw[iH c] at hi Ap;have at_:∀x (hx:x<t.place.size),t.place[x]? = some _:=λx hx=>aaR hx;have nej:∀x (hx:x<t.place.size),t.place[x]≠j:=λx hx z=>nz x (by rw[at_ x hx,z]);by_cases q:i<below t.place j
  ·rw[hZ q,at_ i (by lia)] at e1;have e1:=aaP e1;rw[e1];by_cases q':i'<below t.place j
   ·rw[hZ q',at_ i' (by lia)] at Cu;rw[aaP Cu];exact T.ris _ _ _ _ lt
   grind
  ·rw[hV q] at e1;rw[hV (by lia),hV (by lia),at_ (i' - 1) (by lia)] at Cu;rw[aaP Cu];by_cases r:i=below t.place j
   ·grind
   ·rw[hV r,at_ (i-1) (by lia)] at e1;rw[aaP e1];exact T.ris _ _ _ _ (by lia)
 ·rw[iH c,iH c2,T.sz]
 ·rw[iH c2];exact hr
 ·intro i y h;rw[cy c] at h;split at h
  ·exact T.top i y h
  ·split at h
   ·cases h;exact hj
   ·exact T.top _ y h
 ·intro y v;unfold Uz;constructor
  ·intro h;split at h
   ·rename_i q;cases h;subst q;refine⟨below t.place y,?_,?_⟩
    ·rw[cy c,hV (abC _),hZ rfl]
    ·rw[cy c2,hV (abC _),hZ rfl]
   ·obtain⟨i,h1,h2⟩:=(T.con y v).mp h;by_cases q:i<below t.place j
    ·exact⟨i,by rw[cy c,hZ q];exact h1,by simp_all[cy,hZ]⟩
    ·exact⟨i+1,by rw[cy c,hV (by lia),hV (by lia)];exact h1,by rw[cy c2,hV (by lia),hV (by lia)];exact h2⟩
  ·rintro⟨i,h1,h2⟩;rw[cy c] at h1;rw[cy c2] at h2;by_cases q:i<below t.place j
   ·rw[hZ q] at h1 h2;rw[hV (λz=>nz i (by rw[h1,z]))];exact (T.con y v).mpr ⟨i,h1,h2⟩
   ·rw[hV q] at h1 h2;by_cases r:i=below t.place j
    ·lia
    ·rw[hV r] at h1 h2;rw[hV (λz=>nz (i-1) (by rw[h1,z]))];exact (T.con y v).mpr ⟨_,h1,h2⟩
theorem P2.up {st:Int->Probe}(P:P2 mask st C){e:Int×V}(hb:∀m,m<n->∃e',C (advs mask m (st e.1)).j=some e')(hc:C (advs mask n (st e.1)).j=none):P2 mask st (Uz C (advs mask n (st e.1)).j e):=by
 have MC:∀y,(∃e',C y=some e')->∃e',Uz C (advs mask n (st e.1)).j e y=some e':=λy θ=>by
  obtain⟨e',h⟩:=θ;unfold Uz;grind
 intro j v h;unfold Uz at h;split at h
 ·rename_i q;cases h;exact⟨n,q.symm,λm hm=>MC _ (hb m hm)⟩
 ·obtain⟨n',h1,h2⟩:=P j v h;exact⟨n',h1,λm hm=>MC _ (h2 m hm)⟩
theorem P2.met {st:Int->Probe}(P:P2 mask st C){h:Int}(hc:C (advs mask n (st h)).j=none){e:Int×V}(he:C j=some e)(hh:e.1=h):∃m,m<n/\(advs mask m (st h)).j=j:=by
 obtain⟨m,h1,h2⟩:=P j e he;rw[hh] at h1 h2;rcases afO m n with z|z|z
 ·exact⟨m,z,h1⟩
 ·lia
 ·obtain⟨e',q⟩:=h2 n z;rw[q] at hc;cases hc
end
noncomputable def aeV (mask:Nat)(h:Int):Probe:={j:=bits h % (mask+1),more:=runEnd mask (bits h % (mask+1))-bits h % (mask+1),i:=bits h % (mask+1),perturb:=bits h,dummy:=none}
theorem qF {mask:Nat}:∀(k:Nat) {p:Probe},k<=p.more->(advs mask k p).j=p.j+k/\(advs mask k p).more=p.more-k/\(advs mask k p).i=p.i/\(advs mask k p).perturb=p.perturb/\(advs mask k p).dummy=p.dummy
 |0,p,_=>⟨rfl,rfl,rfl,rfl,rfl⟩
 |k+1,p,h=>by
  obtain⟨a,b,c,d,e⟩:=qF k (p:=adv mask p) (by unfold adv;lia);have e1:(adv mask p).j=p.j+1/\(adv mask p).more=p.more-1/\(adv mask p).i=p.i/\(adv mask p).perturb=p.perturb/\(adv mask p).dummy=p.dummy:=by unfold adv;rw[hZ (by lia)];exact⟨rfl,rfl,rfl,rfl,rfl⟩
  refine⟨?_,?_,c.trans e1.2.2.1,d.trans e1.2.2.2.1,e.trans e1.2.2.2.2⟩
  ·show (advs mask k _).j=_;lia
  ·show (advs mask k _).more=_;lia
theorem xW {mask:Nat}{owner:Array (Option Nat)}(hs:owner.size=mask+1):∀(n ο:Nat) (p:Probe),p.j=p.i->p.more=runEnd mask p.i-p.i->p.i<=mask->n<ο->owner[(ic mask n (p.i,p.perturb)).1]? = some none->
  ∃m,layClean.free mask owner ο p.i p.perturb=some (advs mask m p).j/\owner[(advs mask m p).j]? = some none/\∀a,a<m->∃i,owner[(advs mask a p).j]? = some (some i)
 |n,0,p,_,_,_,hf,_=>by lia
 |n,ο+1,p,hj,hm,hi,hf,hn=>by
  have re:runEnd mask p.i<=mask/\p.i<=runEnd mask p.i:=by unfold runEnd;split<;>lia
  have at_:∀a,a<=p.more->∃o,owner[p.i+a]? = some o:=λa ha=>⟨owner[p.i+a]'(by lia),aaR (by lia)⟩;have gd:∀a o,owner[p.i+a]? = some o->owner.getD (p.i+a) (some 0)=o:=λa o h=>by
   simp[*]
  unfold layClean.free;cases hq:(aax _).find? _ with
  |some k=>
   obtain⟨h1,as,bs,h2,h3⟩:=List.find?_eq_some_iff_append.mp hq;have hk:k<runEnd mask p.i+1-p.i:=aaH.mp (by rw[h2];simp);have Rn:k<=p.more:=by lia
   obtain⟨o,ho⟩:=at_ k Rn;rw[gd k o ho] at h1;have on:o=none:=by simp_all
   subst on;refine⟨k,?_,?_,λa ha=>?_⟩
   ·rw[(qF k Rn).1,hj]
   ·rw[(qF k Rn).1,hj];exact ho
   ·rw[(qF a (by lia)).1,hj];obtain⟨o,ho⟩:=at_ a (by lia);have am:=by
     have la:=by
      have e:(aax (runEnd mask p.i+1-p.i))[as.length]? = some k:=by rw[h2,ace (aaq _),Nat.sub_self];rfl
      have lt:=by
       have:=(aap.mp e).1;simpa using this
      rw[abh lt] at e;exact aaP e
     have e:(aax (runEnd mask p.i+1-p.i))[a]? = some a:=abh (by lia);rw[h2,abZ (by lia)] at e;exact abq e
    have:=h3 a am;rw[gd a o ho] at this;cases o with
    |none=>lia
    |some x=>exact⟨x,ho⟩
  |none=>
   have all:=List.find?_eq_none.mp hq;have î:∀a,a<=p.more->∃i,owner[p.i+a]? = some (some i):=λa ha=>by
    obtain⟨o,ho⟩:=at_ a ha;have:=all a (aaH.mpr (by lia));rw[gd a o ho] at this;cases o with
    |none=>simp at this
    |some x=>exact⟨x,ho⟩
   cases n with
   |zero=>
    obtain⟨i,h⟩:=î 0 (abU _);rw[show ic mask 0 _=(p.i,p.perturb) from rfl,←Nat.add_zero p.i,h] at hn;cases hn
   |succ n=>
    obtain⟨a1,a2,a3,a4,a5⟩:=qF (mask:=mask) p.more (aaq _);have e1:advs mask (p.more+1) p={advs mask p.more p with j:=(leap mask p.i p.perturb).1,more:=runEnd mask (leap mask p.i p.perturb).1-(leap mask p.i p.perturb).1,i:=(leap mask p.i p.perturb).1,perturb:=(leap mask p.i p.perturb).2}:=by
     simp_all[xU,adv,hV]
    obtain⟨m,g1,g2,g3⟩:=xW hs n ο (advs mask _ p) (by rw[e1]) (by rw[e1]) (by rw[e1];exact acA (acW _ (adt _))) (by lia) (by rw[e1];exact hn);refine⟨p.more+1+m,?_,by rw[jt];exact g2,λa ha=>?_⟩
    ·rw[jt];rw[e1] at g1 ⊢;exact g1
    ·rcases acz a (p.more+1) with z|z
     ·rw[(qF a (by lia)).1,hj];exact î a (by lia)
     ·have:=g3 (a-(p.more+1)) (by lia);rw[←jt,show p.more+1+(a-(p.more+1))=a by lia] at this;exact this
end Hc.Sx
namespace Hc.Sx
open PySem.SetTable
structure P4 (mask:Nat)(owner:Array (Option Nat))(k:Nat)(Hf:Nat->Int):Prop where
 sz:owner.size=mask+1
 ix:∀(j i:Nat),owner[j]? = some (some i)->i<k
 ex:∀i:Nat,i<k->∃j:Nat,owner[j]? = some (some i)
 un:∀(j j' i:Nat),owner[j]? = some (some i)->owner[j']? = some (some i)->j=j'
 pt:∀(j i:Nat),owner[j]? = some (some i)->∃n,(advs mask n (aeV mask (Hf i))).j=j/\∀m,m<n->∃i':Nat,owner[(advs mask m (aeV mask (Hf i))).j]? = some (some i')
section
variable {owner:Array (Option Nat)}{Hf:Nat->Int}
theorem P4.free (O:P4 mask owner k Hf)(hk:k<=mask):∃y,y<=mask/\owner[y]? = some none:=by
 refine ab2 λhn=>?_;have Y6:∀y,y<mask+1->∃i,owner[y]? = some (some i):=λy hy=>by
  have h1:y<owner.size:=by rw[O.sz];exact hy
  cases e:owner[y] with
  |none=>exact absurd ⟨y,by lia,by rw[aaR h1,e]⟩ hn
  |some i=>exact⟨i,by rw[aaR h1,e]⟩
 have g:∀y,∃i,y<mask+1->owner[y]? = some (some i):=λy=>by
  grind
 let f:=λy=>aeY (g y)
 have hf:∀y,y<mask+1->owner[y]? = some (some (f y)):=λy=>adu (g y);have:=ac1 (l₁:=(aax (mask+1)).map f) (by
  unfold afZ;rw[ach];refine acX (λ{a b} ha hb CC e=>?_) adX;have h1:=hf a (aaH.mp ha);have h2:=hf b (aaH.mp hb);rw[e] at h1;exact CC (O.un _ _ _ h1 h2)) (λx hx=>by
  obtain⟨y,hy,rfl⟩:=aan.mp hx;exact aaH.mpr (O.ix y _ (hf y (aaH.mp hy))))
 rw[aaa,aaJ,aaJ] at this;lia
theorem P4.step (O:P4 mask owner k Hf)(hp:∃p,mask+1=2 ^ p)(hk:k<=mask):∃j,layClean.free mask owner (turns mask) (bits (Hf k) % (mask+1)) (bits (Hf k))=some j/\P4 mask (owner.setIfInBounds j (some k)) (k+1) Hf:=by
 obtain⟨y,hy,ho⟩:=O.free hk;obtain⟨p,hp⟩:=hp;have hi:bits (Hf k) % (mask+1)<=mask:=acA (acW _ (adt _));obtain⟨n,h1,h2⟩:=xT hp hi (Ft _) hy;obtain⟨m,g1,g2,g3⟩:=xW O.sz n (turns mask) (aeV mask (Hf k)) rfl rfl hi (by unfold turns;lia) (by
  show owner[(ic mask n (bits (Hf k) % (mask+1),bits (Hf k))).1]? = _;rw[h2];exact ho)
 refine⟨_,g1,?_⟩;have hj:=(abm.mp g2).1;generalize ej:(advs mask m _).j=j at *;have gt:∀x,(owner.setIfInBounds j (some k))[x]? = if x=j then some (some k) else owner[x]? := λx=>by
  grind
 have MC:∀x:Nat,(∃i':Nat,owner[x]? = some (some i'))->∃i':Nat,(owner.setIfInBounds j (some k))[x]? = some (some i'):=λx θ=>by
  grind
 refine⟨by rw[Array.size_setIfInBounds];exact O.sz,λx i h=>?_,λi hi=>?_,λx x' i h h'=>?_,λx i h=>?_⟩
 ·rw[gt] at h;split at h
  ·cases h;lia
  ·have:=O.ix x i h;lia
 ·by_cases c:i=k
  ·grind
  ·obtain⟨x,h⟩:=O.ex i (by lia);refine⟨x,?_⟩;rw[gt,hV (λz=>by rw[z,g2] at h;cases h)];exact h
 ·rw[gt] at h h';by_cases c:x=j
  ·by_cases c':x'=j
   ·rw[c,c']
   ·rw[hZ c] at h;rw[hV c'] at h';cases h;have:=O.ix _ _ h';lia
  ·by_cases c':x'=j
   ·rw[hV c] at h;rw[hZ c'] at h';cases h';have:=O.ix _ _ h;lia
   ·rw[hV c] at h;rw[hV c'] at h';exact O.un _ _ _ h h'
 ·rw[gt] at h;split at h
  ·rename_i c;cases h;exact⟨m,by rw[ej,c],λa ha=>MC _ (g3 a ha)⟩
  ·obtain⟨n,h1,h2⟩:=O.pt x i h;exact⟨n,h1,λa ha=>MC _ (h2 a ha)⟩
end
noncomputable def N2 (mask:Nat)(b8:Option (Array (Option Nat)×Nat))(h:Int):Option (Array (Option Nat)×Nat):=do
  let (owner,k) ←b8
  let j ←layClean.free mask owner (turns mask) (bits h % (mask+1)) (bits h)
  pure (owner.setIfInBounds j (some k),k+1)
theorem Fv {mask:Nat}{Hf:Nat->Int}(hp:∃p,mask+1=2 ^ p):∀(hs:List Int) (k:Nat) (owner:Array (Option Nat)),P4 mask owner k Hf->(∀i,i<hs.length->hs[i]? = some (Hf (k+i)))->k+hs.length<=mask->
  ∃Κ,hs.foldl (N2 mask) (some (owner,k))=some (Κ,k+hs.length)/\P4 mask Κ (k+hs.length) Hf
 | [],k,owner,O,_,_=>⟨owner,rfl,O⟩
 |h::hs,k,owner,O,he,hl=>by
  have e0:=by have:=he 0 (by simp);simpa using this
  rw[aaw] at hl;obtain⟨j,g1,g2⟩:=O.step hp (by lia);obtain⟨Κ,f1,f2⟩:=Fv hp hs (k+1) _ g2 (λi hi=>by
   have:=he (i+1) (by rw[aaw];lia);rw[ab9] at this;rw[this];congr 2;lia) (by lia)
  refine⟨Κ,?_,?_⟩
  ·rw[afe,show N2 mask _ h=some (owner.setIfInBounds j (some k),k+1) by unfold N2;rw[e0];simp[g1],f1,aaw];lia
  ·rw[aaw,show k+(hs.length+1)=k+1+hs.length by lia];exact f2
theorem N3 (mask:Nat)(Hf:Nat->Int):P4 mask (Array.replicate (mask+1) none) 0 Hf:=by
 have no:∀(j i:Nat),(Array.replicate (mask+1) (none:Option Nat))[j]? ≠ some (some i):=λj i h=>by
  rw[Array.getElem?_replicate] at h;split at h<;>cases h
 exact⟨by simp,λj i h=>absurd h (no j i),λi h=>absurd h (Nat.not_lt_zero _),λj _ i h=>absurd h (no j i),λj i h=>absurd h (no j i)⟩
theorem ki {α β:Type}{f:α->Option β}:∀{l:List α},(∀x∈l,∃y,f x=some y)->∀n:Nat,(l.filterMap f)[n]? = (l[n]?).bind f
 | [],_,n=>by simp
 |x::l,h,n=>by
  obtain⟨y,hy⟩:=h x aae;rw[afP hy];cases n with
  |zero=>simp[hy]
  |succ n=>simpa using ki (λz hz=>h z (aai _ hz)) n
theorem nJ {α β:Type}{f:α->Option β}:∀{l:List α},(∀x∈l,∃y,f x=some y)->(l.filterMap f).length=l.length
 | [],_=>rfl
 |x::l,h=>by
  obtain⟨y,hy⟩:=h x aae;rw[afP hy,aaw,aaw,nJ λz hz=>h z (aai _ hz)]
variable {V:Type}
theorem N4 {finger moves:Nat}{led plain:Bool}{es:Array (Int×V)}(hp:∃p,mask+1=2 ^ p)(hl:es.size<=mask):∃(t:ad_) (Α:Array Nat) (C:Nat->Option (Int×V)),laid mask finger moves led plain (es.map (·.1))=some (t,Α)/\
  Fq t (Α.filterMap (es[·]?)) C/\P2 mask (aeV mask) C/\(Α.filterMap (es[·]?)).size=es.size/\t.mask=mask/\t.finger=finger/\t.moves=moves/\t.led=led/\t.plain=plain/\
  (Α.filterMap (es[·]?)).toList.Perm es.toList:=by
 obtain⟨owner,f1,O⟩:=Fv (Hf:=λi=>(es[i]?.map (·.1)).getD 0) hp (es.map (·.1)).toList 0 _ (N3 mask _) (λi hi=>by
  have Rm:=by simpa using hi
  simp[Rm]) (by simpa using hl)
 rw[abw,aaY,Array.size_map] at f1 O;have lc:layClean mask (es.map (·.1))=some owner:=by
  unfold layClean;rw[←Array.foldl_toList];show ((es.map (·.1)).toList.foldl (N2 mask) _).map (·.1)=some owner;rw[f1];rfl
 let live:=(aax (mask+1)).filterMap λj=>(owner.getD j none).map (j,·)
 have gd:∀j i,owner.getD j none=some i↔owner[j]? = some (some i):=λj i=>by
  by_cases h:j<owner.size
  ·simp[h]
  ·simp[h]
 have ml:∀j i,(j,i)∈live↔owner[j]? = some (some i):=λj i=>by
  rw[afr];constructor
  ·simp_all
  ·intro h;refine⟨j,aaH.mpr ?_,by rw[(gd j i).mpr h];rfl⟩;have:=(abm.mp h).1;rw[O.sz] at this;exact this
 have pw:live.Pairwise (λa b=>a.1<b.1/\a.2≠b.2):=by
  rw[List.pairwise_filterMap];refine List.pairwise_lt_range.imp λ{a b} CC x hx y hy=>?_;cases e:owner.getD a none with
  |none=>rw[e] at hx;cases hx
  |some i=>cases e':owner.getD b none with
   |none=>rw[e'] at hy;cases hy
   |some i'=>
    rw[e] at hx;rw[e'] at hy;cases hx;cases hy;refine⟨CC,λz=>?_⟩;subst z;have:=O.un _ _ _ ((gd _ _).mp e) ((gd _ _).mp e');lia
 have Ć:=by
  have nd:(live.map (·.2)).Nodup:=by
   unfold afZ;rw[ach];exact pw.imp λh=>h.2
  exact (afn nd adX).mpr λi=>by
   rw[aan,aaH];constructor
   ·rintro⟨⟨j,i'⟩,h,rfl⟩;exact O.ix j i' ((ml j i').mp h)
   ·intro h;obtain⟨j,e⟩:=O.ex i h;exact⟨(j,i),(ml j i).mpr e,rfl⟩
 have len:=by
  have:=Ć.length_eq
  rwa [aaa,aaJ] at this
 have okI:∀x∈live,∃y,es[x.2]? = some y:=λx hx=>by
  have:=O.ix x.1 x.2 ((ml x.1 x.2).mp hx);simp[*]
 have W5:∀x∈live.map (·.2),∃y,es[x]? = some y:=λx hx=>by
  obtain⟨z,hz,rfl⟩:=aan.mp hx;exact okI z hz
 have Y7:((live.map (·.2)).toArray.filterMap (es[·]?)).toList=(live.map (·.2)).filterMap (es[·]?):=by simp
 have Ā:∀n ,((live.map (·.2)).toArray.filterMap (es[·]?))[n]? = (live[n]?).bind _:=λn=>by
  rw[←aa0,Y7,ki W5,aar];cases live[n]? <;> rfl
 have Y8:∀n:Nat,(live.map (·.1)).toArray[n]? = (live[n]?).map (·.1):=λn=>by
  simp
 let C:Nat->Option _:=λj=>(owner.getD j none).bind (es[·]?)
 have hC:∀j e,C j=some e↔∃i,owner[j]? = some (some i)/\es[i]? = some e:=λj e=>by
  show (owner.getD j none).bind _=some e↔_;cases q:owner.getD j none with
  |none=>
   grind
  |some i=>
   constructor
   ·intro h;exact⟨i,(gd j i).mp q,h⟩
   ·rintro⟨i',h,h2⟩;rw[(gd j i').mpr h] at q;cases q;exact h2
 have Pu:((live.map (·.2)).toArray.filterMap (es[·]?)).size=es.size:=by
  rw[←aaY,Y7,nJ W5,aaa,len]
 refine⟨{mask,place:=(live.map (·.1)).toArray,dummies:=#[],finger,led,moves,plain},(live.map (·.2)).toArray,C,?_,⟨?_,?_,rfl,hp,?_,?_,?_⟩,?_,Pu,rfl,rfl,rfl,rfl,rfl,?_⟩
 ·unfold laid;rw[lc];rfl
 ·intro i j hi hj lt;have g:=pw;rw[afF] at g;have Ap:=by simpa using hi
  have hj' :=by simpa using hj
  have:=(g i j Ap hj' lt).1;simpa using this
 ·rw[Pu];simp[len]
 ·rw[Pu];exact hl
 ·intro i j h;rw[Y8] at h;cases e:live[i]? with
  |none=>rw[e] at h;cases h
  |some x=>
   rw[e] at h;cases h;have:=(abm.mp ((ml x.1 x.2).mp (abq e))).1;rw[O.sz] at this;exact acA this
 ·intro j e;rw[hC];constructor
  ·rintro⟨i,h1,h2⟩;obtain⟨n,hn⟩:=List.mem_iff_getElem?.mp ((ml j i).mpr h1);exact⟨n,by rw[Y8,hn];rfl,by rw[Ā,hn];exact h2⟩
  ·rintro⟨n,h1,h2⟩;rw[Y8] at h1;rw[Ā] at h2;cases q:live[n]? with
   |none=>rw[q] at h1;cases h1
   |some x=>
    rw[q] at h1 h2;cases h1;exact⟨x.2,(ml x.1 x.2).mp (abq q),h2⟩
 ·intro j e h;obtain⟨i,h1,h2⟩:=(hC j e).mp h;obtain⟨n,g1,g2⟩:=O.pt j i h1;have hf:(es[i]?.map (·.1)).getD 0=e.1:=by rw[h2];rfl
  rw[hf] at g1 g2;refine⟨n,g1,λm hm=>?_⟩;obtain⟨i',h3⟩:=g2 m hm;have:=O.ix _ _ h3;exact⟨es[i'],(hC _ _).mpr ⟨i',h3,aaR this⟩⟩
 ·rw[Y7];refine (Ć.filterMap _).trans ?_;have e:(aax es.size).filterMap (es[·]?)=es.toList:=by
   refine acU λn=>?_;rw[ki (λx hx=>⟨es[x]'(aaH.mp hx),aaR _⟩)];by_cases h:n<es.size
   ·rw[abh h];simp
   ·rw[aa9.mpr (by simpa using h),aa9.mpr (by simpa using h)];rfl
  rw[e]
end Hc.Sx
namespace Hc.Sx
open PySem.SetTable
theorem Be:∀(ο size n:Nat),(∃p,size=2 ^ p)->8<=size->(size<=8\/size<=2*n)->n<size*2 ^ ο->(∃p,sizeAbove.go n ο size=2 ^ p)/\n<sizeAbove.go n ο size/\8<=sizeAbove.go n ο size/\(sizeAbove.go n ο size<=8\/sizeAbove.go n ο size<=2*n)
 |0,size,n,hp,h8,hb,hn=>by
  unfold sizeAbove.go;exact⟨hp,by simpa using hn,h8,hb⟩
 |ο+1,size,n,⟨p,hp⟩,h8,hb,hn=>by
  unfold sizeAbove.go;by_cases c:size<=n
  ·rw[hZ c];exact Be ο _ n ⟨p+1,by rw[hp,ac0]⟩ (by lia) (.inr (by lia)) (by rw[ac0,abN _ 2,←abP] at hn;exact hn)
  ·rw[hV c];exact⟨⟨p,hp⟩,by lia,h8,hb⟩
theorem JL (h:n<2 ^ 60):(∃p,sizeAbove n=2 ^ p)/\n<sizeAbove n/\8<=sizeAbove n/\(sizeAbove n<=8\/sizeAbove n<=2*n):=
 Be 64 8 n ⟨3,rfl⟩ (aaq _) (.inl (aaq _)) (adn h (by decide))
structure rM {prog:adf}{w:ac2}{K:Type}[DecidableEq K](bI:aek prog w K):Prop where
 cls:∀{A:abd} {E:aao->aaE->Prop} {s:aaE} {k:K} {a:aaL} {Q:Bool->aaE->Prop},bI.is s.heap k a->Q false s->aaT (aaX prog w) A (ofAClassStatement 8 (.ref a)) Q E s
 byv:∀{A:abd} {E:aao->aaE->Prop} {s:aaE} {k:K} {a:aaL} {Q:Bool->aaE->Prop},bI.is s.heap k a->Q true s->aaT (aaX prog w) A (hashByValue 8 (.ref a)) Q E s
 kept:∀{h h':ac5} {k:K} {a d:aaL} {o:Obj} {es:Array (Int×aao)} {ep:Nat} {t:ad_},bI.is h k a->h.get? d=some o->o.data=.set es ep t->acL d h h'->bI.is h' k a
section
variable {K:Type}[DecidableEq K]{bI:aek prog w K}
def Yv (bI:aek prog w K)(x:K×aaL):Int×aao:=(bI.hash x.1,.ref x.2)
structure HS (bI:aek prog w K)(h:ac5)(xs:List (K×aaL))(es:Array (Int×aao))(t:ad_)(C:Nat->Option (Int×aao)):Prop where
 tab:Fq t es C
 pth:P2 t.mask (aeV t.mask) C
 pl:t.plain=true
 lo:7<=t.mask
 hi:t.mask<=8191
 few:es.size*5<t.mask*3
 per:es.toList.Perm (xs.map (Yv bI))
 keys:∀x∈xs,bI.is h x.1 x.2
 nd:(xs.map (·.1)).Nodup
def oo (bI:aek prog w K)(byText:Bool)(h:ac5)(a:aaL)(xs:List (K×aaL)):Prop:=
 ∃o es ep t C,h.get? a=some o/\o.ExactSet/\o.data=.set es ep t/\HS bI h xs es t C/\(byText=true\/t.led=true)
variable {A:abd}
theorem HS.fits {xs:List (K×aaL)}{es:Array (Int×aao)}(S:HS bI h xs es t C):t.fits es.size=true:=by
 unfold SetTable.fits SetTable.fill;rw[S.tab.sz,S.tab.dum];simp;exact S.tab.room
theorem HS.stays {xs:List (K×aaL)}{es:Array (Int×aao)}(S:HS bI h xs es t C):t.gaveWay=false:=by
 unfold SetTable.gaveWay;obtain⟨p,hp⟩:=S.tab.pow;have:=S.lo;cases p with
 |zero=>simp_all
 |succ p=>simp;lia
theorem HS.entry {xs:List (K×aaL)}{es:Array (Int×aao)}(S:HS bI h xs es t C){e:Int×aao}(he:e∈es.toList):∃k b,(k,b)∈xs/\e=(bI.hash k,.ref b)/\bI.is h k b:=by
 obtain⟨⟨k,b⟩,hx,rfl⟩:=aan.mp (S.per.mem_iff.mp he);exact⟨k,b,hx,rfl,S.keys _ hx⟩
theorem HS.at {xs:List (K×aaL)}{es:Array (Int×aao)}(S:HS bI h xs es t C){e:Int×aao}(hc:C j=some e):∃k b,(k,b)∈xs/\e=(bI.hash k,.ref b)/\bI.is h k b:=by
 obtain⟨i,_,h2⟩:=(S.tab.con j e).mp hc;exact S.entry (by have:=Array.mem_of_getElem? h2;simpa using this)
theorem HS.has {xs:List (K×aaL)}{es:Array (Int×aao)}(S:HS bI h xs es t C){k:K}(hx:(k,b)∈xs):∃j,C j=some (bI.hash k,.ref b):=by
 have:=S.per.mem_iff.mpr (aan.mpr ⟨_,hx,rfl⟩);obtain⟨i,hi⟩:=List.mem_iff_getElem?.mp this;rw[aa0] at hi;have h2:i<t.place.size:=by rw[S.tab.sz];exact (abm.mp hi).1
 exact⟨t.place[i],(S.tab.con _ _).mpr ⟨i,aaR h2,hi⟩⟩
theorem Hq (sk:rM bI){k:K}(hk:bI.is s.heap k b){Q:Bool->aaE->Prop}(l:List aao)(hl:∀y∈l,∃k' b',y=.ref b'/\bI.is s.heap k' b')(h:Q false s):aaT (aaX prog w) A (searchCouldBeSeen (.ref b) l) Q E s:=by
 refine aab ?_;refine wpAny_forIn_list _ (λrest r s'=>r.1=none/\s'=s/\∀y∈rest,∃k' b',y=.ref b'/\bI.is s.heap k' b') _ ?_ ?_ _ _ ⟨rfl,rfl,hl⟩
 ·rintro y rest r s' ⟨hr,rfl,hy⟩;obtain⟨k',b',rfl,Rn⟩:=hy y aae;have next:=λz hz=>hy z (aai _ hz)
  dsimp only;split
  ·exact aah ⟨rfl,rfl,next⟩
  ·refine aab (bI.quiet hk ?_);refine aab (bI.quiet Rn ?_);refine aab (sk.cls hk ?_);refine aab (sk.cls Rn ?_);exact aah ⟨rfl,rfl,next⟩
 ·rintro⟨r1,r2⟩ s' ⟨hr,rfl,_⟩;subst hr;exact aah h
end
end Hc.Sx
namespace Hc.Sx
open PySem.SetTable
section
variable {K:Type}[DecidableEq K]{bI:aek prog w K}{A:abd}
variable {o:Obj}{es:Array (Int×aao)}{xs:List (K×aaL)}{k:K}
abbrev MP (t:ad_)(h:Int)(n:Nat):Nat:=(advs t.mask n (aeV t.mask h)).j
theorem rN (sk:rM bI)(hr:bI.room A)(hk:bI.is s.heap k b)(ho:s.heap.get? a=some o)(hd:o.data=.set es ep t)(S:HS bI s.heap xs es t C){Q:SetFound->aaE->Prop}{N:Nat}(hN:C (MP t (bI.hash k) N)=none)
  (Ae:k∈xs.map (·.1)->Q (.there none) s)
  (wD:k∉xs.map (·.1)->∀n,(∀m,m<n->∃e,C (MP t (bI.hash k) m)=some e)->C (MP t (bI.hash k) n)=none->Q (.free (MP t (bI.hash k) n) false) s) :
  ∀(ο n:Nat) (Λ:Option Probe),Λ.getD (t.probeStart (bI.hash k))=advs t.mask n (aeV t.mask (bI.hash k))->N<n+ο->(∀m,m<n->∃k' b',C (MP t (bI.hash k) m)=some (bI.hash k',.ref b')/\(k',b')∈xs/\k'≠k)->
   aaT (aaX prog w) A (setSearchFrom a (.ref b) (bI.hash k) true ο Λ) Q E s
 |0,n,Λ,hs,hf,hb=>by
  grind
 |ο+1,n,Λ,hs,hf,hb=>by
  refine aab (abI ho hd S.fits ?_);dsimp only;rw[S.stays];simp only[afA,if_false];obtain⟨m',g1,g2⟩:=Dk S.tab (λi e h=>by show (es[i]?.map (·.1)).getD 0=e.1;rw[h];rfl) _ (mf.advs n (mf.start t _));have pa:∀x,(advs t.mask x (advs t.mask n (t.probeStart _))).j=MP t (bI.hash k) (n+x):=λx=>by rw[←jt];rfl
  have Y9:∀m,m<n+m'->∃k' b',C _=some _/\(k',b')∈xs/\k'≠k:=λm hm=>by
   rcases acz m n with z|z
   ·exact hb m z
   ·obtain⟨e,h1,h2⟩:=g1 (m-n) (by lia);rw[pa,show n+(m-n)=m by lia] at h1;obtain⟨k',b',hx,rfl,_⟩:=S.at h1;exact⟨k',b',h1,hx,λz=>h2 (by rw[z])⟩
  have pe:t.probe (λi=>(es[i]?.map (·.1)).getD 0) (bI.hash k) (Λ.getD (t.probeStart (bI.hash k)))=t.probe (λi=>(es[i]?.map (·.1)).getD 0) (bI.hash k) (advs t.mask n (t.probeStart (bI.hash k))):=by rw[hs];rfl
  rcases g2 with⟨c1,c2⟩|⟨e,i,c1,c2,c3,c4,c5⟩
  ·
   have Y_:=pe.trans c2;rw[pa] at c1 Y_;have nx:k∉xs.map (·.1):=λhm=>by
    obtain⟨⟨k0,b0⟩,hx,rfl⟩:=aan.mp hm;obtain⟨j,hj⟩:=S.has hx;obtain⟨m,hm,hmj⟩:=S.pth.met c1 hj rfl;obtain⟨k',b',h1,h2,h3⟩:=Y9 m hm;have h1:C j=some (bI.hash k',.ref b'):=by rw[←hmj];exact h1
    rw[hj] at h1;have eb:=by
     have:=(Prod.mk.inj (aaP h1)).2;injection this
    subst eb;exact h3 (bI.inj (S.keys _ h2) (S.keys _ hx))
   have fin:=wD nx (n+m') (λm hm=>let ⟨k',b',h1,_⟩:=Y9 m hm;⟨_,h1⟩) c1;split
   ·rename_i met hq;have e:=(hq.symm.trans Y_);cases e;exact aah fin
   ·rename_i hq;exact absurd Y_ (by intro z;exact hq _ z)
  ·
   have Uj:=pe.trans c5;rw[pa] at c1 c4 Uj;rw[←jt] at Uj;obtain⟨k',b',hx,rfl,Rn⟩:=S.at c1;have body:∀R ,R=(do
     let some (_,y):=es[i]? | unsupported "internal:set-entry"
     let equal ←holding [y] (eqBool y (.ref b))
     let (MD,_,t') ←setState a
     if true&&equal then return .there none
     let some same:=t'.sameMemory t.moves t.mask|unsupported "set.changed-during-lookup:is-the-new-block-at-the-old-address"
     let GH ←match (if same then t'.slot (MP t (bI.hash k) (n+m')) else .empty) with
      | .live i'=>match MD[i']? with
       |some (_,y')=>do pure (if ←isSame y' y then some i' else none)
       |none=>pure none
      |_=>pure none
     match GH with
     |none=>rule "set.search.anew";setSearchFrom a (.ref b) (bI.hash k) true ο none
     |some i'=>if equal then return .there (some i') else setSearchFrom a (.ref b) (bI.hash k) true ο (some (advs t.mask (n+(m'+1)) (t.probeStart (bI.hash k)))))->aaT _ A R Q E s:=λR hR=>by
    subst hR;rw[c3];dsimp only;refine aab (abx (bI.eqBool hr Rn hk ?_));refine aab (abI ho hd S.fits ?_);by_cases q:k'=k
    ·rw[hG q];subst q;exact aah (Ae (aan.mpr ⟨_,hx,rfl⟩))
    ·rw[hJ q];have sm:t.sameMemory t.moves t.mask=some true:=by unfold SetTable.sameMemory;simp
     rw[sm];obtain⟨i2,l1,l2,l3⟩:=S.tab.live c1;rw[l1];simp only[if_true];rw[l2];refine aab (wpAny_isSame_ref_self ?_);simp only[if_true];refine aab (aah ?_);refine rN sk hr hk ho hd S hN Ae wD ο _ _ rfl (by lia) λm hm=>?_;rcases acz m (n+m') with z|z
     ·exact Y9 m z
     ·have:m=n+m':=by lia
      subst this;exact⟨k',b',c1,hx,q⟩
   split
   ·rename_i met hq;have e:=(hq.symm.trans Uj);cases e;dsimp only;split
    ·refine aab (Hq sk hk _ (λy hy=>?_) ?_)
     ·obtain⟨e,he,rfl⟩:=aan.mp hy;have he:e∈es.toList:=by
       grind
      obtain⟨k2,b2,_,rfl,h2⟩:=S.entry he;exact⟨k2,b2,rfl,h2⟩
     ·exact body _ rfl
    ·exact body _ rfl
   ·rename_i hq;exact absurd Uj (by intro z;exact hq _ z)
theorem Hr (sk:rM bI)(hr:bI.room A)(hk:bI.is s.heap k b)(ho:s.heap.get? a=some o)(hd:o.data=.set es ep t)(S:HS bI s.heap xs es t C){Q:SetFound->aaE->Prop}
  (Ae:k∈xs.map (·.1)->Q (.there none) s)
  (wD:k∉xs.map (·.1)->∀n,(∀m,m<n->∃e,C (MP t (bI.hash k) m)=some e)->C (MP t (bI.hash k) n)=none->Q (.free (MP t (bI.hash k) n) false) s) :
  aaT (aaX prog w) A (setSearch a (.ref b) (bI.hash k) true) Q E s:=by
 obtain⟨y,hy,hc⟩:=S.tab.free;obtain⟨p,hp⟩:=S.tab.pow;obtain⟨N,h1,h2⟩:=xV hp (mf.start t _) hy;refine rN sk hr hk ho hd S (by show C (advs t.mask N (t.probeStart _)).j=none;rw[h2];exact hc) Ae wD 100000 0 none rfl ?_ λm hm=>by lia
 have:=S.hi;unfold turns at h1;lia
end
end Hc.Sx
namespace Hc.Sx
open PySem.SetTable
theorem nK {α:Type}(xs:Array α)(p:Nat)(x:α):(insertAt xs p x).toList.Perm (xs.toList++[x]):=by
 rw[kh];have h:(x::xs.toList.drop p).Perm _:=(List.perm_append_singleton x _).symm;grind[aeN,trans,acg,adw]
section
variable {K:Type}[DecidableEq K]{bI:aek prog w K}{A:abd}
variable {o:Obj}{es:Array (Int×aao)}{xs:List (K×aaL)}{k:K}{byText:Bool}
def nN (xs:List (K×aaL))(k:K)(b:aaL):List (K×aaL):=if k∈xs.map (·.1) then xs else xs++[(k,b)]
theorem stored (ho:h.get? a=some o)(hd:o.data=.set es ep t)(MD:Array (Int×aao))(t':ad_) :
  (h.update a (Obj.putSet MD t')).get? a=some {o with data:=.set MD (ep+1) t'}:=by
 have:=aci (Obj.putSet MD t') ho (by rw[putSet_of MD t' hd];rfl);rw[putSet_of MD t' hd] at this;exact this
theorem JM {h:ac5}(sk:rM bI)(ho:s.heap.get? a=some o)(MT:o.ExactSet)(hd:o.data=.set es ep t)(tab:Fq t es C)(pl:t.plain=true)(per:es.toList.Perm (xs.map (Yv bI)))(keys:∀x∈xs,bI.is s.heap x.1 x.2)(nd:(xs.map (·.1)).Nodup)(led:byText=true\/t.led=true)(hn:es.size=n)(hn0:1<=n)(aaj:n<=2047){Q:Unit->aaE->Prop}(q:∀h',acL a s.heap h'->oo bI byText h' a xs->Q () {s with heap:=h'}) :
  aaT (aaX prog w) A (setRelay a (grown n)) Q E s:=by
 have hw:grown n=n*4:=by unfold grown;rw[hV (by lia)]
 have ab:=JL (n:=grown n) (by rw[hw];exact ab8 (show n*4<=8192 by lia) (by decide));have sz:aaf=16777216:=rfl;generalize eS:sizeAbove (grown n)=sA at ab;obtain⟨⟨p,hp⟩,a1,a2,a3⟩:=ab;have m1:sA-1+1=2 ^ p:=by grind
 have m8:=by
  have p14:p<14:=by
   refine ab2 λz=>?_;have h14:(2:Nat) ^ 14<=2 ^ p:=Nat.pow_le_pow_right (by decide) (by simp_all);lia
  have h13:(2:Nat) ^ p<=2 ^ 13:=Nat.pow_le_pow_right (by decide) (by lia);omega
 have fit:t.fits es.size=true:=by
  unfold SetTable.fits SetTable.fill;rw[tab.sz,tab.dum];simp;exact tab.room
 obtain⟨t',Α,C',h1,T',P',hsz,e1,e2,e3,e4,e5,MJ⟩:=N4 (es:=es) ⟨p,m1⟩ (by lia);refine aab (abI ho hd fit ?_);dsimp only;rw[hV (by omega)];have hr:t.relaid (es.map (·.1)) (grown n)=some (t',Α):=by unfold SetTable.relaid;rw[eS];exact h1
 have Pu:(Α.filterMap (es[·]?)).size<=aaf:=by lia
 have Ao:¬(((Α.filterMap (es[·]?)).size != es.size)=true):=by rw[hsz];simp
 refine aab (adx (by rw[hr];exact hV Ao) ?_);refine wpAny_storeSet_of ho hd ?_ Pu;have Uk:=abF s.heap a (Obj.putSet (Α.filterMap (es[·]?)) t');refine q _ Uk ⟨_,_,_,t',C',stored ho hd _ _,MT,rfl,⟨T',by rw[e1];exact P',by rw[e5];exact pl,by grind,by simp[*],by rw[hsz,hn];lia,?_,λx hx=>sk.kept (keys x hx) ho hd Uk,nd⟩,led.imp id λz=>by rw[e4];exact z⟩;exact MJ.trans per
end
end Hc.Sx
namespace Hc.Sx
open PySem.SetTable
section
variable {K:Type}[DecidableEq K]{bI:aek prog w K}{A:abd}
variable {xs:List (K×aaL)}{k:K}{byText:Bool}
theorem Sv (sk:rM bI)(hr:bI.room A)(hk:bI.is s.heap k b)(hS:oo bI byText s.heap a xs)(hl:xs.length+1<=2047){Q:Bool->aaE->Prop}
  (q:∀h' r,acL a s.heap h'->oo bI byText h' a (nN xs k b)->Q r {s with heap:=h'}):aaT (aaX prog w) A (setAddHashed a (.ref b) (bI.hash k)) Q E s:=by
 obtain⟨o,es,ep,t,C,ho,MT,hd,S,led⟩:=hS;have szl:=by have:=S.per.length_eq;simpa using this
 refine abx (aab (abI ho hd S.fits ?_));dsimp only;refine aab (Hr sk hr hk ho hd S (λAf=>?_) λW6 n hb hc=>?_)
 ·refine aah ?_;have e:s={s with heap:=s.heap}:=by rfl
  exact q s.heap false (Heap.SameBut.refl a s.heap) (by unfold nN;rw[hZ Af];exact⟨o,es,ep,t,C,ho,MT,hd,S,led⟩)
 ·refine aab (abI ho hd S.fits ?_);have few:=S.few;have lo:=S.lo;have jm:=by
   have:∀n,(advs t.mask n (aeV t.mask (bI.hash k))).j+(advs t.mask n (aeV t.mask (bI.hash k))).more<=t.mask:=by
    intro n
    induction n with
    |zero=>
     show bits _ % (t.mask+1)+(runEnd t.mask _-bits _ % (t.mask+1))<=t.mask;have:bits (bI.hash k) % (t.mask+1)<t.mask+1:=acW _ (adt _);unfold runEnd;split<;>lia
    |succ n ih=>
     rw[xU];unfold adv;split
     ·lia
     ·dsimp only;have:(leap t.mask (advs t.mask n (aeV t.mask (bI.hash k))).i (advs t.mask n (aeV t.mask (bI.hash k))).perturb).1<t.mask+1:=acW _ (adt _);unfold runEnd;split<;>lia
   have:=this n;show (advs t.mask n (aeV t.mask (bI.hash k))).j<=t.mask;lia
  obtain⟨T1,p1,p2,p3,p4,p5⟩:=S.tab.put (e:=(bI.hash k,Value.ref b)) jm hc (by lia);have P1:=P2.up S.pth (e:=(bI.hash k,Value.ref b)) hb hc;generalize et:(t.put _).1=t1 at *;generalize ei:(t.put _).2=ip at *;have Pu:=by
   have:=(nK es ip (bI.hash k,Value.ref b)).length_eq;simpa using this
  rw[hZ (by rw[p2];exact S.pl)];refine aab (sk.byv hk ?_);simp only[if_true];have sl:aaf=16777216:=rfl;refine aab (wpAny_storeSet_of ho hd ?_ (by lia));have Uk:=abF s.heap a (Obj.putSet (insertAt es ip (bI.hash k,Value.ref b)) t1);have ò:=stored ho hd (insertAt es ip (bI.hash k,Value.ref b)) t1;have Ĉ:nN xs k b=xs++[(k,b)]:=by unfold nN;rw[hV W6]
  have W7:(insertAt es ip (bI.hash k,Value.ref b)).toList.Perm ((xs++[(k,b)]).map (Yv bI)):=by
   rw[aaD];exact (nK _ _ _).trans (List.Perm.append_right _ S.per)
  have Ro:∀x∈xs++[(k,b)],bI.is _ x.1 x.2:=λx hx=>by
   rcases aaQ.mp hx with z|z
   ·exact sk.kept (S.keys x z) ho hd Uk
   ·rw[aau.mp z];exact sk.kept hk ho hd Uk
  have XN:((xs++[(k,b)]).map (·.1)).Nodup:=by
   rw[aaD,abO];exact⟨S.nd,by simp,λx hx y hy e=>by
    grind⟩
  have W8:byText=true\/t1.led=true:=led.imp id λz=>by lia
  have W9:t1.fill=es.size+1:=by
   unfold SetTable.fill;rw[T1.sz,T1.dum,Pu];rfl
  cases tf:t1.tooFull with
  |false=>
   refine aah (q _ true Uk ?_);rw[Ĉ];refine⟨_,_,_,t1,_,ò,MT,rfl,⟨T1,by rw[p1];exact P1,by rw[p2];exact S.pl,by rw[p1];exact lo,by rw[p1];exact S.hi,?_,W7,Ro,XN⟩,W8⟩;unfold SetTable.tooFull at tf;rw[W9] at tf;rw[Pu];simpa using tf
  |true=>
   refine aab (JM (h:=s.heap) (s:={s with heap:=s.heap.update a _}) sk ò MT rfl T1 (by rw[p2];exact S.pl) W7 Ro XN W8 Pu (by lia) (by lia) λh' Za H'=>?_);refine aah (q h' true (Uk.trans Za) ?_);rw[Ĉ];exact H'
theorem JN {led:Bool}(hl:byText=true\/led=true)(hg:h.get? a=some {cls:=.type "set",dict:=none,data:=.set #[] 0 (.fresh 0 0 led)}):oo bI byText h a []:=by
 refine⟨_,#[],0,.fresh 0 0 led,λ_=>none,hg,⟨rfl,rfl,rfl⟩,rfl,⟨⟨λi j hi=>absurd hi (Nat.not_lt_zero _),rfl,rfl,⟨3,rfl⟩,abU _,λi j h=>?_,λj e=>⟨λh=>(by cases h),fun⟨i,h,_⟩=>?_⟩⟩,λj e h=>(by cases h),rfl,aaq _,(show (7:Nat)<=8191 by decide),(show 0*5<7*3 by decide),abB _,λx hx=>(by cases hx),ab1⟩,hl⟩
 ·have h:(#[]:Array Nat)[i]? = some j:=h;simp at h
 ·have h:(#[]:Array Nat)[i]? = some j:=h;simp at h
end
end Hc.Sx
namespace Hc.Sx
open PySem.SetTable
section
variable {K:Type}[DecidableEq K]{bI:aek prog w K}{A:abd}
variable {xs:List (K×aaL)}{k:K}{byText:Bool}
theorem oo.keep (H:oo bI byText h a xs)(e:∀o,h.get? a=some o->h'.get? a=some o)(hk:∀x∈xs,bI.is h' x.1 x.2):oo bI byText h' a xs:=by
 obtain⟨o,es,ep,t,C,ho,MT,hd,S,led⟩:=H;exact⟨o,es,ep,t,C,e o ho,MT,hd,⟨S.tab,S.pth,S.pl,S.lo,S.hi,S.few,S.per,hk,S.nd⟩,led⟩
theorem oo.setAt (H:oo bI byText h a xs):∃o es ep t,h.get? a=some o/\o.data=.set es ep t:=by
 obtain⟨o,es,ep,t,C,ho,MT,hd,S,led⟩:=H;exact⟨o,es,ep,t,ho,hd⟩
def ig (val:Nat->K×aaL):Nat->List (K×aaL)
 |0=>[]
 |i+1=>nN (ig val i) (val i).1 (val i).2
theorem Bf (val:Nat->K×aaL){i:Nat}:∀{n:Nat},i<=n->(ig val i).length<=(ig val n).length
 |0,h=>by rw[Nat.le_zero.mp h];exact aaq _
 |n+1,h=>by
  by_cases e:i=n+1
  ·rw[e];exact aaq _
  ·refine abl (Bf val (n:=n) (by lia)) ?_;show (ig val n).length<=(nN _ _ _).length;unfold nN;split
   ·exact aaq _
   ·rw[aay];lia
theorem mX (val:Nat->K×aaL):∀(i:Nat) (x:K×aaL),x∈ig val i->∃j,j<i/\x=val j
 |0,x,h=>by cases h
 |i+1,x,h=>by
  unfold ig nN at h;split at h
  ·obtain⟨j,h1,h2⟩:=mX val i x h;exact⟨j,by lia,h2⟩
  ·rcases aaQ.mp h with z|z
   ·obtain⟨j,h1,h2⟩:=mX val i x z;exact⟨j,by lia,h2⟩
   ·exact⟨i,by lia,aau.mp z⟩
variable {R:Result->aaE->Prop}{I:aaL}{wr:List aaL}{G:Array GenState->Array GenState->Prop}{P:Nat->aao->Prop}{St:Nat->aaE->Prop}
theorem Hs (sk:rM bI)(hr:bI.room A.in1)(W:WalksS prog w A.in1 I fp wr G n P St)(S:aaL)(ā:S∉fp)(val:Nat->K×aaL)(Zb:∀i v,P i v->v=.ref (val i).2)(hn:(ig val n).length+1<=2047)
  (mv:∀i (s s':aaE),i<=n->St i s->Moved wr G s s'->(∀j,j<n->bI.is s.heap (val j).1 (val j).2)->∀j,j<n->bI.is s'.heap (val j).1 (val j).2) :
  ∀(d i:Nat) (s:aaE),n-i=d->i<=n->St i s->(∀j,j<n->bI.is s.heap (val j).1 (val j).2)->oo bI byText s.heap S (ig val i)->
   (∀s',Moved (S::wr) G s s'->(∀j,j<n->bI.is s'.heap (val j).1 (val j).2)->oo bI byText s'.heap S (ig val n)->R (.ok (.ret .none)) s')->
   codeAny (aaX prog w) A (.builtin "set.update.loop" ⟨[.ref S,.ref I],[]⟩) R s:=by
 have nS:=λh=>ā (W.sub _ h);have up:∀b∈wr,b∈S::wr:=λb hb=>aai _ hb;have GH:∀i (s s':aaE),i<=n->St i s->Moved wr G s s'->(∀j,j<n->bI.is s.heap (val j).1 (val j).2)->oo bI byText s.heap S _->oo bI byText s'.heap S _:=λi s s' hi st m hk H=>
  H.keep (λo e=>m.heap S o nS e) λx hx=>by
   obtain⟨j,h1,rfl⟩:=mX val i x hx;exact mv i s s' hi st m hk j (by lia)
 intro d
 induction d with
 |zero=>
  intro i s hd hi st hk H q;obtain rfl:i=n:=by lia
  refine acD F.entry_set_update_loop ?_;refine aab (W.done s _ _ st λs' m=>?_);exact aah (q s' (m.mono up) (mv i s s' hi st m hk) (GH i s s' hi st m hk H))
 |succ d ih=>
  intro i s hd hi st hk H q;have lt:i<n:=by lia
  refine acD F.entry_set_update_loop ?_;refine aab (W.item i s _ _ lt st λv s1 hP Cs m=>?_);obtain rfl:=Zb i v hP;have H1:=GH i s s1 hi st m hk H;have Cv:=mv i s s1 hi st m hk;refine aab (abx ?_);refine abx (aab (bI.pyHash hr (Cv i lt) ?_));refine Sv (s:={s1 with toks:=s1.toks+bI.draws (val i).1}) sk hr (Cv i lt) H1 (by have:=Bf val hi;lia) λh' r sb H2=>?_;obtain⟨oS,eS,epS,tS,gS,dS⟩:=H1.setAt;have UJ:=λj hj=>sk.kept (Cv j hj) gS dS sb;refine aah ⟨plainId_quiet F.plain_set_update_loop _,ih (i+1) _ (by lia) lt (W.frame _ s1 _ _ Cs (Nat.le_add_right _ _) λb hb o e=>?_) UJ H2 λs2 m2 hk3 H3=>?_⟩
  ·rw[sb.2 b (λz:b=S=>ā (by lia))];exact e
  ·refine q s2 (Moved.trans W.gtrans ((m.mono up).then_heap (Nat.le_add_right _ _) λb o hb e=>?_) m2) hk3 H3;rw[sb.2 b (λz:b=S=>hb (by rw[z];exact aae))];exact e
end
end Hc.Sx
namespace Hc.Sx
open PySem.SetTable
abbrev Cz (w:ac2):Bool:=w.params.followText "set-order"
abbrev sY (w:ac2):Obj:={cls:=.type "set",dict:=none,data:=.set #[] 0 (.fresh 0 0 (!Cz w))}
section
variable {A:abd}
theorem JO (x:aao)(q:Q (.ref s.heap.objs.size) {s with heap:=s.heap.push (sY w)}):codeAny (aaX prog w) A (.call (.builtin "set.__new__") ⟨[.type "set",x],[]⟩) (wants Q E) s:=by
 refine codeAny_of_tree ?_;refine aab (adx (PySem.F.newCall_set_1 x) (aah ⟨plainId_quiet PySem.F.plain_set_new _,acD PySem.F.entry_set_new ?_⟩));unfold Builtin.«set.__new__» Builtin.Frozenset.newClass;have sb:=sub_set_self;wp_walk;refine acr (aah ?_);exact aab (wpAny_alloc (aah (aah q)))
theorem JP {t:aaL}(R:aaE->Prop)(fill:aaT (aaX prog w) A.in1.in1 (Builtin.«set.__init__» ⟨[.ref s.heap.objs.size,.ref t],[]⟩) (λfin s'=>∃r,fin=.done (.ret r)/\r=.none/\R s') E {s with heap:=s.heap.push (sY w)})(q:∀s',R s'->Q (.ref s.heap.objs.size) s'):aaT (aaX prog w) A (call (.type "set") [.ref t]) Q E s:=by
 have mk0:=PySem.F.called_set.made;have sb0:=PySem.F.called_set.sub;have tc0:=PySem.F.typeCall_set_1 (Value.ref t);refine wpAny_call (codeAny_of_tree ?_);refine aah ⟨Code.quiet_builtin _ (by decide+kernel),acD PySem.F.entry_type_call ?_⟩
 repeat (any_goals first|assumption|wp_step)
 refine aeK (JO _ (E:=E) (Q:=λx s1=>x=.ref _/\s1={s with heap:=s.heap.push (sY w)}) ⟨rfl,rfl⟩) λr s1 hr=>?_;cases r with
 |error e=>exact hr
 |ok fl=>
  cases fl with
  |ret ob=>
   obtain⟨rfl,rfl⟩:=hr;have gS:(s.heap.push (sY w)).get? _=some (sY w):=aas _ rfl;have tS:Shared.TypeIs {s with heap:=s.heap.push (sY w)} (.ref _) "set":=⟨_,gS,rfl⟩;have il:=PySem.F.called_set.init.lookup;have ib:=PySem.F.called_set.init.bind (Value.ref s.heap.objs.size)
   repeat (any_goals first|assumption|wp_step)
   refine aeK (codeAny_call_builtin (R:=wants (λr s2=>r=.none/\R s2) E) PySem.F.called_set.init.plain PySem.F.entry_set_init (check_set_init_1 tS ?_)) λr2 s2 xu=>?_
   ·exact abr fill (λfin s' ⟨r,e,h1,h2⟩=>by subst e;exact⟨h1,h2⟩) (λe s' h=>h)
   ·cases r2 with
    |error e=>exact xu
    |ok f2=>
     cases f2 with
     |ret r=>
      obtain⟨rfl,h2⟩:=xu
      repeat (any_goals first|assumption|wp_step)
      exact q _ h2
     |_=>exact xu.elim
  |_=>exact hr.elim
variable {K:Type}[DecidableEq K]{bI:aek prog w K}
theorem Bg {l:aaL}{az:Array aao}(sk:rM bI)(mono:∀{h h':ac5} {k:K} {a:aaL},bI.is h k a->(∀b az,h.IsTuple b az->h'.IsTuple b az)->bI.is h' k a)(hr:bI.room A.in1.in1.in1)(hh:A.handled=none)(hl:s.heap.IsList l az)(val:Nat->K×aaL)(hv:∀(i:Nat) (v:aao),az[i]? = some v->v=.ref (val i).2)(hk:∀j,j<az.size->bI.is s.heap (val j).1 (val j).2)(hb:(ig val az.size).length+1<=2047)(q:∀(h':ac5) (tk:Nat),oo bI (Cz w) h' s.heap.objs.size (ig val az.size)->(∀b o,s.heap.get? b=some o->h'.get? b=some o)->Q (.ref s.heap.objs.size) {s with heap:=h',toks:=tk}) :
  aaT (aaX prog w) A (call (.type "set") [.ref l]) Q E s:=by
 refine JP (λs'=>∃h' tk,s'={s with heap:=h',toks:=tk}/\oo bI (Cz w) h' s.heap.objs.size (ig val az.size)/\∀b o,s.heap.get? b=some o->h'.get? b=some o) ?_ λs' ⟨h',tk,e,h1,h2⟩=>by subst e;exact q h' tk h1 h2
 obtain⟨ot,gt,ct,nt,dt⟩:=hl;obtain⟨oc,od,oda,os⟩:=ot;simp only at ct dt;subst ct;subst dt;have gt':(s.heap.push (sY w)).get? l=some {cls:=.type "list",dict:=od,data:=.seq az nt,slots:=os}:=aak _ gt;have gS:(s.heap.push (sY w)).get? s.heap.objs.size=some (sY w):=aas _ rfl;have n1:=PySem.F.sub_list_set;have n2:=PySem.F.sub_list_frozenset;have n3:(Value.type "list"==Value.type "dict")=false:=by decide
 have ĉ:(s.heap.push (sY w)).IsList l az:=⟨_,gt',rfl,nt,rfl⟩;unfold Builtin.«set.__init__» noKeywords Builtin.Frozenset.updateFrom;generalize ePI:pyIter=PI;wp_walk;subst ePI;refine aeu ĉ ?_;refine aab (wpAny_runValue ?_);have lt:l<s.heap.objs.size:=aaF gt;have h3:A.in1.in1.in1.handled=none:=by simp[hh]
 have Zc:l≠(s.heap.push (sY w)).objs.size:=by rw[ab7];exact aaW (acT lt)
 have ni:s.heap.objs.size∉[(s.heap.push (sY w)).objs.size,l]:=by
  rw[ab7];grind
 have XG:∀(h:ac5) (o:Obj) b az,h.IsTuple b az->(h.push o).IsTuple b az:=λh o b az x=>x.push o;refine Hs (byText:=Cz w) sk hr ((Walks.list h3 _ l Zc az).toS) s.heap.objs.size ni val hv hb (λi u u' _ st m ks j hj=>?_) (az.size-0) 0 _ (by lia) (abU _) ⟨⟨_,aas _ rfl,rfl,rfl⟩,ĉ.push _⟩ (λj hj=>mono (hk j hj) λb i2 x=>XG _ _ _ _ (XG _ _ _ _ x)) ?z0 ?zR
 ·refine mono (ks j hj) λb i2 ⟨o,e,c,n,d⟩=>⟨o,m.heap b o (λhm=>?_) e,c,n,d⟩;rw[aau] at hm;subst hm;obtain⟨o2,e2,c2,_⟩:=st.1;lia
 case z0=>exact JN (by lia) (aak _ gS)
 case zR=>
  intro s' hm _ Ud;obtain⟨h',g',d',Y4,o'⟩:=s';have eg:g'=s.gens:=hm.gens;have ed:d'=s.drawn:=hm.drawn;have eo2:o'=s.os:=hm.os;subst eg;subst ed;subst eo2;show aaT _ _ _ _ _ _;refine aah ?_;show aaT _ _ (ret Value.none) _ _ _;refine aah ⟨_,rfl,rfl,h',Y4,rfl,Ud,λb o e=>?_⟩;have ì:=aaF e;refine hm.heap b o ?_ (aak _ (aak _ e));rw[ab7];simp only[aaA,acJ,or_false,not_or];exact⟨aaW ì,aaW (acT ì)⟩
end
end Hc.Sx
namespace L2
section
variable {e:ab6}{pos lW p1 p2:Pos}{b1:Bool}{ga:Ev->R (List U×Ev)}
def JQ:abk "set"=some (.type "set"):=by rfl
end
theorem kE:fillsNumberSlot (.type "tuple") "mul"=pure false:=
 PySem.fillsNumberSlot_seq PySem.F.slot_tuple_mul.lookup (by rfl) PySem.F.slot_tuple_rmul.lookup (by rfl)
theorem pB:seqRepeat? (.type "tuple")=pure (some (.builtin "tuple.__mul__")):=by
 rfl
theorem uU (a:Int)(t:Tok)(l:aaL)(az:Array aao)(n:Nat) :
  Meets (Builtin.«int.__rmul__» ⟨[.int a t,.ref l],[]⟩) (λ_ R s=>s.heap.get? l=some {cls:=.type "tuple",data:=.seq az n}/\R (.ok (.ret Value.notImplemented)) s):=
 .of_wp λprog w A R s h=>by
  obtain⟨hl,h⟩:=h;wp_walk;exact⟨_,rfl,h⟩
theorem Ht (l:aaL)(az:Array aao)(n:Nat)(x:Int)(u:Tok)(h2:2<=x)(h3:x<2 ^ 63)(h0:az.isEmpty=false)(hs:az.size*x.toNat<=100000) :
  Meets (Builtin.«tuple.__mul__» ⟨[.ref l,.int x u],[]⟩) (λ_ R s=>s.heap.get? l=some {cls:=.type "tuple",data:=.seq az n}/\R (.ok (.ret (Value.ref s.heap.objs.size))) {s with heap:=s.heap.push {cls:=Value.type "tuple",data:=Data.seq (List.foldl (λa b=>a++b) #[] (aa_ x.toNat az))},toks:=s.toks}):=
 .of_wp λprog w A R s h=>by
  obtain⟨hl,h⟩:=h;have c1:¬((decide (x < -(2 ^ 63))||decide (x≥2 ^ 63))=true):=by simp;(simp at *;lia)
  have c2:¬((az.isEmpty||x==1)=true):=by lia
  have c3:¬((decide (x<=0)||az.isEmpty)=true):=by lia
  have e:(az.size:Int)*x=((az.size*x.toNat:Nat):Int):=by lia
  have c4:¬((az.size:Int)*x>(2 ^ 63-1) / 8):=by lia
  have c5:¬(afo ((az.size:Int)*x)=true):=by unfold afo;have:aaf=16777216:=rfl;lia
  have szz:(List.foldl (λa b=>a++b) #[] (aa_ x.toNat az)).size<=aaf:=by
   rw[listMul_foldl];have:aaf=16777216:=rfl;simp;lia
  wp_walk;rw[hV c1];refine aab (wpAny_tupleItemsOf hl rfl ?_);rw[hV c2,hV c3,hV c4,hV c5];exact aab (abc (aah ⟨_,rfl,h⟩) szz)
section
variable {pos:Pos}
def JR:R2:=λx y H Q=>∃(p:aaL) (xs:List V) (n:Int),x=.ref p/\y=.int n/\H p=some (.tup xs)/\2<=n/\xs≠[]/\xs.length*n.toNat<=100000/\∀l,H l=none->Q (.ref l) (dz H l (.tup (aa_ n.toNat xs).flatten))
theorem uW {xs:List V}{us:List aao}(r:bf xs us):∀n:Nat,bf (aa_ n xs).flatten (aa_ n us).flatten
 |0=>.nil
 |n+1=>by
  exact r.append (uW r n)
theorem ue {α:Type}(xs:List α)(n:Nat):(aa_ n xs).flatten.length=xs.length*n:=by
 simp[abN]
theorem N5:jT X (acQ .Mult) JR:=by
 intro ċ s σ H x y v u Q I rx ry h;obtain⟨p,xs,n,rfl,rfl,hp,h2,Ao,hs,q⟩:=h;obtain rfl:v=Value.ref p:=rx;obtain⟨tk,rfl⟩:∃t,u=.int n t:=ry;obtain⟨hz,az,rv,_,n0,ho⟩:xs.length<=aaf/\∃az:List aao,bf xs az/\IsTup s.heap p _/\∃n,s.heap.get? p=some _:=I.hok p _ hp;have hl:=rv.length;have h1:1<=xs.length:=by grind
 have hn:=abl (Nat.le_mul_of_pos_left _ h1) hs;have he:az.toArray.isEmpty=false:=by grind
 refine adS (by decide) ⟨_,ho,rfl⟩ (λs'=>ae_ s' n tk) kE aeO acm pB PySem.F.slot_int_index.lookup
  (adb acm (ae_ s n tk) aer (ael _ _) (uU n tk p _ n0)
   ⟨ho,rfl,⟨_,ho,rfl⟩,adb afW ⟨_,ho,rfl⟩ PySem.F.entry_tuple_mul (afQ _ _)
    (Ht p _ n0 n tk h2 (by (simp at *;lia)) he (by rw[aaz,←hl];exact hs)) ⟨ho,?_⟩⟩)
 rw[listMul_foldl];have el:(#[]:Array aao).toList=[]:=rfl;have z2:(aa_ n.toNat xs).flatten.length<=aaf:=by rw[ue];have:aaf=16777216:=rfl;lia
 exact⟨.ref _,_,I.laid (o:=.tup _) (λ_ _ e=>aak _ e) (aaq _) ⟨z2,_,uW rv n.toNat,⟨_,aas _ rfl,rfl,_,rfl⟩,_,aas _ rfl⟩,rfl,q _ (I.hok.fresh (aaq _))⟩
noncomputable def JS:U->U->R U:=λu w=>match u,w with
 | .tup us,.int n=>if 2<=n/\us.length*n.toNat<=100000/\us≠[] then .ok (.tup (aa_ n.toNat us).flatten) else .stk
 |_,_=>.stk
theorem yY {H:Hp}{A:aaL->Prop}{us:List U}{xs:List V}(r:aU K H A us xs):∀n:Nat,aU K H A (aa_ n us).flatten (aa_ n xs).flatten
 |0=>aU.nil
 |n+1=>by
  exact r.append (yY r n)
theorem JT:fV K JR .S JS:=λA H x y u w z Q hx hy mu e q=>by
 unfold JS at e;split at e
 ·rename_i us n;split at e
  ·rename_i c;cases e;obtain⟨a,xs,rfl,h1,l1,r1⟩:=hx;subst hy;have hl:=r1.length;refine⟨a,xs,n,rfl,rfl,h1,c.1,λz=>c.2.2 (acs (by rw[hl,z];rfl)),by rw[←hl];exact c.2.1,λl hn=>?_⟩;refine q _ _ (cD hn _) (show Rp K _ A _ _ from ?_);refine⟨l,_,rfl,bD,?_,(yY r1 _).same (cD hn _)⟩;rw[ue];have:aaf=16777216:=rfl;lia
  ·cases e
 ·cases e
end
@[irreducible] noncomputable def Sw (X:Cx)(G:Gm)(es:List ab6)(b p:Bool)(g:Ev->R (List U×Ev)):Prop:=DA X G es b p g
section
variable {e:ab6}{es:List ab6}{b1 b2 p:Bool}{m1:Md}{g1:Ev->R (U×Ev)}{ga:Ev->R (List U×Ev)}
theorem Sz (h:Sw X G es b1 p ga):DA X G es b1 p ga:=by unfold Sw at h;exact h
theorem lB:Sw X G [] false p aq:=by unfold Sw;exact ai
theorem a_ (ha:DE X G e b1 m1 g1)(hr:Sw X G es b2 p ga)(hm:m1=.P->(p=true/\b2=false):=by first|exact λ_=>⟨rfl,rfl⟩|exact λh=>nomatch h)
  (hs:aaN (e::es) X.env=(false,adM e X.env)::aaN es X.env:=by rfl):Sw X G (e::es) (b1||b2) p (af g1 ga):=by
 unfold Sw at hr ⊢;exact ae ha hr hm hs
end
end L2
namespace Hc.Zp
def yZ (l:Bool)(h:ac5)(a:aaL)(xs:Array aao):Prop:=if l=true then h.IsList a xs else h.IsTuple a xs
def oq (l:Bool)(h:ac5)(it a:aaL)(i:Nat):Prop:=if l=true then h.IsListIter it a i else h.IsTupleIter it a i
def SA (l:Bool):String:=if l=true then "list_iterator" else "tuple_iterator"
theorem oq.at (x:oq l h it a i)(e:∀o,h.get? it=some o->h'.get? it=some o):oq l h' it a i:=by
 cases l with
 |true=>exact Heap.IsListIter.at x e
 |false=>exact Heap.IsTupleIter.at x e
theorem oq.obj (x:oq l h it a i):∃o,h.get? it=some o/\o.data=.fields #[.ref a,.int i 0]/\o.cls=.type (SA l):=by
 cases l with
 |true=>obtain⟨o,e,c,d⟩:=x;exact⟨o,e,d,c⟩
 |false=>obtain⟨o,e,c,d⟩:=x;exact⟨o,e,d,c⟩
section
variable {A:abd}
theorem Dm {xs:Array aao}{x:aao}(hi:s.heap.IsTupleIter it a i)(ha:s.heap.IsTuple a xs)(hx:xs[i]? = some x)(q:∀h',h'.IsTupleIter it a (i+1)->acL it s.heap h'->Q x {s with heap:=h'}):aaT (aaX prog w) A (acO (.ref it)) Q E s:=by
 obtain⟨o,ho,hc,hd⟩:=id hi;obtain⟨oa,Þ,_,na,ã⟩:=ha;refine aab (aa7 hi.typeIs acH (aa4 acH hi.typeIs aff ?_ (ae7 _)));show aaT _ _ (field _ 0 >>= _) _ _ s;refine aab (abD ho hd rfl ?_);refine aab (abD ho hd rfl ?_);refine aab (wpAny_seqItems Þ ã ?_);simp only[abt,hx];refine aab (acP ho hd (by simp) (aah ⟨x,rfl,aah (q _ ⟨_,aci _ ho (ady (aca hd _)),(aeB ..).trans hc,?_⟩ (abF ..))⟩));rw[aca hd];rfl
theorem Hu {xs:Array aao}(hh:A.handled=none)(hi:s.heap.IsTupleIter it a i)(ha:s.heap.IsTuple a xs)(hx:xs[i]? = none)(q:∀h' e,afg it s.heap h'->(∃o,h'.get? e=some o/\o.cls=.type "StopIteration")->E (.ref e) {s with heap:=h'}):aaT (aaX prog w) A (acO (.ref it)) Q E s:=by
 obtain⟨o,ho,hc,hd⟩:=id hi;obtain⟨oa,Þ,_,na,ã⟩:=ha;refine aab (aa7 hi.typeIs acH (aa4 acH hi.typeIs aff ?_ (ae7 _)));show aaT _ _ (field _ 0 >>= _) _ _ s;refine aab (abD ho hd rfl ?_);refine aab (abD ho hd rfl ?_);refine aab (wpAny_seqItems Þ ã ?_);simp only[abt,hx];refine aab (ae9 (aab (acP ho hd (by simp) ?_)));refine aab ?_;refine aab (m:=afG _ _) (adx (by rfl) ?_);refine abc ?_ (by size_fits);refine aab (wpAny_handled ?_)
 first|rw[hh]|rw[hh]
 exact aab (aah (wpAny_throw (q _ _ (((abF ..).extBut.push _).push _) ⟨_,aas _ rfl,rfl⟩)))
theorem Hv {xs:Array aao}{x:aao}(hi:oq l s.heap it a i)(ha:yZ l s.heap a xs)(hx:xs[i]? = some x)(q:∀h',oq l h' it a (i+1)->acL it s.heap h'->Q x {s with heap:=h'}):aaT (aaX prog w) A (acO (.ref it)) Q E s:=by
 cases l with
 |true=>exact wpAny_nextOf_list_item hi ha hx q
 |false=>exact Dm hi ha hx q
theorem JU {xs:Array aao}(hh:A.handled=none)(hi:oq l s.heap it a i)(ha:yZ l s.heap a xs)(hx:xs[i]? = none)(q:∀h' e,afg it s.heap h'->(∃o,h'.get? e=some o/\o.cls=.type "StopIteration")->E (.ref e) {s with heap:=h'}):aaT (aaX prog w) A (acO (.ref it)) Q E s:=by
 cases l with
 |true=>exact wpAny_nextOf_list_end hh hi ha hx q
 |false=>exact Hu hh hi ha hx q
theorem y0 {xs:Array aao}(ha:yZ l s.heap a xs)(q:Q (.ref s.heap.objs.size) {s with heap:=s.heap.push {cls:=.type (SA l),data:=.fields #[.ref a,.int 0 0]}}):aaT (aaX prog w) A (pyIter (.ref a)) Q E s:=by
 cases l with
 |true=>exact aeu ha q
 |false=>exact aeb ha q
end
abbrev Yw (l1:Bool)(h:ac5)(a1:aaL):ac5:=h.push {cls:=.type (SA l1),data:=.fields #[.ref a1,.int 0 0]}
end Hc.Zp
namespace L2
open Hc.Zp
section
variable {T:aaL}{o:HO}
theorem aG.turnNew {t':Nat}(I:aG X ċ σ H s)(hf:∀b∈fp,sS X ċ H b)(k:∀b o,b∉fp->s.heap.get? b=some o->h'.get? b=some o)(hT:s.heap.objs.size<=T)(new:cR X.prog X.w (dz H T o) h' T o) :
  aG X ċ σ (dz H T o) {s with heap:=h',toks:=t'}:=by
 have hn:=I.hok.fresh hT;have nf:∀b u,H b=some u->b∉fp:=λb u e z=>by rw[(hf b z).1] at e;cases e
 have nT:∀b u,H b=some u->b≠T:=λb u e z=>by lia
 refine I.step (λb hb=>?_) (λb o _ _ hc e _=>k b o hc e) (λb o _ _ hc e _=>⟨o.slots,k b o hc e⟩) (λb o _ e n=>?_) (λb o hc e=>⟨o,k b o hc e⟩)
  (λb xs e=>?_) (λb o u e=>?_) (λb ps e=>⟨#[],?_⟩) (λm hm=>?_) (λb u e=>?_) I.bare
 ·obtain⟨f0,f1,f2,f3,f4,f5⟩:=hf b hb;exact⟨f3,f1,f4,f5⟩
 ·rw[bB (aaW (aaZ (aaF e) hT))];exact n
 ·rw[bB (nT b _ e)];exact e
 ·rw[bB (nT b _ e)];exact e
 ·rw[bB (nT b _ e),e];simp
 ·obtain⟨o,es,ep,ho,r⟩:=hm;exact⟨o,es,ep,k _ o (λz=>(hf _ z).2.1 rfl) ho,r⟩
 ·by_cases c:b=T
  ·grind[bD]
  ·rw[bB c] at e;refine (I.hok b u e).stay (λc v hc q=>k c v ?_ q) (λc q=>by rw[bB (nT c _ q)];exact q) λc xs q=>by rw[bB (nT c _ q)];exact q
   grind
theorem aG.turneds {t':Nat}(I:aG X ċ σ H s)(hf:∀b∈fp,sS X ċ H b)(k:∀b o,b∉fp->s.heap.get? b=some o->h'.get? b=some o):aG X ċ σ H {s with heap:=h',toks:=t'}:=by
 have nf:∀b u,H b=some u->b∉fp:=λb u e z=>by rw[(hf b z).1] at e;cases e
 refine I.step (λb hb=>?_) (λb o _ _ hc e _=>k b o hc e) (λb o _ _ hc e _=>⟨o.slots,k b o hc e⟩) (λb o _ e n=>n) (λb o hc e=>⟨o,k b o hc e⟩)
  (λb xs e=>e) (λb o u e=>e) (λb ps e=>⟨#[],by rw[e];simp⟩) (λm hm=>?_) (λb u e=>?_) I.bare
 ·obtain⟨f0,f1,f2,f3,f4,f5⟩:=hf b hb;exact⟨f3,f1,f4,f5⟩
 ·obtain⟨o,es,ep,ho,r⟩:=hm;exact⟨o,es,ep,k _ o (λz=>(hf _ z).2.1 rfl) ho,r⟩
 ·refine (I.hok b u e).stay (λc v hc q=>k c v ?_ q) (λ_ q=>q) λ_ _ q=>q;grind
def N6 (l:Bool)(K:aam)(H:Hp)(a:aaL)(xs:List V):Prop:=if l=true then g_ K H a xs else iG K H a xs
theorem aG.sq (I:aG X ċ σ H s)(q:N6 l X.K H a xs):∃az,bf xs az/\yZ l s.heap a az.toArray:=by
 cases l with
 |true=>obtain⟨az,rv,p,_⟩:=I.list q;exact⟨az,rv,p.isList⟩
 |false=>obtain⟨az,rv,p,_⟩:=I.tuple q;exact⟨az,rv,p⟩
theorem aG.sq_inj {ys:List V}(I:aG X ċ σ H s)(q:N6 l X.K H a xs)(q':N6 l X.K H a ys):xs=ys:=by
 cases l with
 |true=>exact I.list_inj q q'
 |false=>exact I.tuple_inj q q'
end
def SE:U->Option (List U)
 | .lst us=>some us
 | .tup us=>some us
 |_=>none
section
variable {p1 pos:Pos}{a b:ab6}{b1:Bool}{ga:Ev->R (List U×Ev)}
theorem SF (e:SE u=some us)(h:Rp K H A u v):∃l a xs,v=.ref a/\us.length<=aaf/\aU K H A us xs/\N6 l K H a xs/\∀H',fU A H H'->(∀b,A b->Mu (H b))->N6 l K H' a xs:=by
 unfold SE at e;split at e;rotate_right
 ·cases e
 rotate_left
 ·cases e;obtain⟨a,xs,rfl,q,l,z⟩:=h;exact⟨false,a,xs,rfl,l,z,iG.of q,λH' x mu=>iG.of (x a _ (λy=>by have:=mu a y;rw[q] at this;exact this) q)⟩
 ·cases e;obtain⟨a,xs,rfl,na,q,l,z⟩:=h;exact⟨true,a,xs,rfl,l,z,g_.of q,λH' x mu=>g_.of (x a _ na q)⟩
end
end L2
namespace L2
def nr {α:Sort _}{a b:α}(h:a=b):a=b:=h
noncomputable def look (o:Option (Option U))(ρ:Ev):R (U×Ev):=match o with
 |some (some u)=>.ok (u,ρ)
 |_=>.stk
def ZH (u:U)(ρ:Ev):R (Bool×Ev):=match u with
 | .bl c=>.ok (c,ρ)
 |_=>.stk
def XA (o:Option U):R U:=match o with
 |some u=>.ok u
 |none=>.stk
def SR.seq (r:SR)(g:Ev->SR):SR:=match r with
 | .nx ρ=>g ρ
 |r=>r
noncomputable def SR.turn (r:SR)(g:Ev->SR):SR:=match r with
 | .nx ρ=>g ρ
 | .ct ρ=>g ρ
 | .bk ρ=>.nx ρ
 |r=>r
noncomputable def Bh (m:Md)(r:SR):R U:=match r with
 | .rt u _=>.ok u
 | .nx _=>if m=.S then .ok .non else .stk
 | .exc c u=>.exc c u
 |_=>.stk
def io0 (u:U)(o:Option (Option U)):R (U×U):=match o with
 |some (some w)=>.ok (u,w)
 |_=>.stk
def SG (r:SR):R (U×U):=match r with
 | .rt u ρ=>io0 u ρ[0]?
 | .nx ρ=>io0 .non ρ[0]?
 | .exc c u=>.exc c u
 |_=>.stk
section
variable {w:U}{α β:Type}{g g1 g2 g3:Ev->R (U×Ev)}{h h1 h2:Ev->R (Bool×Ev)}{s s1 s2:Ev->SR}{ga:Ev->R (List U×Ev)}{m:Md}{ws:List U}
def P5:ag i ρ=look ρ[i]? ρ:=nr rfl
def JV:look (some (some u)) ρ=.ok (u,ρ):=nr rfl
def ZI:gC u ρ=.ok (u,ρ):=nr rfl
def Hw {a:α}{f:α->R β}:(R.ok a).bind f=f a:=nr rfl
def ju {a:α}{f:α->SR}:SR.of (R.ok a) f=f a:=nr rfl
def VD {p:U->U->R U}:aR p g1 g2 ρ=(g1 ρ).bind λx=>(g2 x.2).bind λy=>(p x.1 y.1).bind λz=>.ok (z,y.2):=nr rfl
def ZJ:gB g ρ=(g ρ).bind λx=>ZH x.1 x.2:=nr rfl
def P7 {c:Bool}:ZH (.bl c) ρ=.ok (c,ρ):=nr rfl
theorem JW:yM h1 h2 ρ=(h1 ρ).bind λx=>if x.1=true then h2 x.2 else .ok (false,x.2):=nr rfl
theorem P8:Vn h1 h2 ρ=(h1 ρ).bind λx=>if x.1=true then .ok (true,x.2) else h2 x.2:=nr rfl
def JX:Jh h ρ=(h ρ).bind λx=>.ok (!x.1,x.2):=nr rfl
def VF:Xs h g1 g2 ρ=(h ρ).bind λx=>if x.1=true then g1 x.2 else g2 x.2:=nr rfl
noncomputable def ZK (p':U->U->R U)(g3:Ev->R (U×Ev))(y:U×Ev)(z:U):R (U×Ev):=match z with
 | .bl k=>if k=true then (g3 y.2).bind λw=>(p' y.1 w.1).bind λz'=>.ok (z',w.2) else .ok (.bl false,y.2)
 |_=>.stk
def Fw {p p':U->U->R U}:yN p p' g1 g2 g3 ρ=(g1 ρ).bind λx=>(g2 x.2).bind λy=>(p x.1 y.1).bind λz=>ZK p' g3 y z:=nr rfl
theorem Qa {p':U->U->R U}{y:U×Ev}{k:Bool}:ZK p' g3 y (.bl k)=if k=true then (g3 y.2).bind λw=>(p' y.1 w.1).bind λz'=>.ok (z',w.2) else .ok (.bl false,y.2):=nr rfl
def VG {p:U->R U}:Vp p g ρ=(g ρ).bind λx=>(p x.1).bind λz=>.ok (z,x.2):=nr rfl
def JY:aq ρ=.ok ([],ρ):=nr rfl
def Fx:af g ga ρ=(g ρ).bind λx=>(ga x.2).bind λy=>.ok (x.1::y.1,y.2):=nr rfl
def JZ:bQ ga ρ=(ga ρ).bind λx=>if x.1.length<=aaf then .ok (.tup x.1,x.2) else .stk:=nr rfl
def J0:i_ ga ρ=(ga ρ).bind λx=>if x.1.length<=aaf then .ok (.lst x.1,x.2) else .stk:=nr rfl
def VH {p:List U->R U}:fi p ga ρ=(ga ρ).bind λx=>(p x.1).bind λz=>.ok (z,x.2):=nr rfl
def VI {f:List U->R U}:eo n f ga ρ=(ga ρ).bind λx=>(C0 n f x.1).bind λz=>.ok (z,x.2):=nr rfl
def Qb {f:List U->R α}(h:us.length=n):C0 n f us=f us:=hZ h
noncomputable def ZL (n:Nat)(f:List U->R (U×U))(us:List U)(i:Nat)(ρ:Ev)(o:Option (Option U)):R (U×Ev):=match o with
 |some (some u0)=>(C0 n f (u0::us)).bind λz=>.ok (z.1,ρ.set i (some z.2))
 |_=>.stk
def Qc {f:List U->R (U×U)}:ZL n f us i ρ (some (some u))=(C0 n f (u::us)).bind λz=>.ok (z.1,ρ.set i (some z.2)):=nr rfl
def Fy (o:Option (Option U)):Bool:=match o with
 |some (some _)=>true
 |_=>false
def Fz:Fy (some (some u))=true:=nr rfl
def VJ {f:List U->R (U×U)}:qx n i f ga ρ=if Fy ρ[i]? = true then (ga ρ).bind λx=>ZL n f x.1 i x.2 x.2[i]? else .stk:=nr rfl
noncomputable def Yx (i:Nat)(p:U->List U->R (U×U))(us:List U)(ρ:Ev)(o:Option (Option U)):R (U×Ev):=match o with
 |some (some u0)=>(p u0 us).bind λz=>.ok (z.1,ρ.set i (some z.2))
 |_=>.stk
def Qd {p:U->List U->R (U×U)}:Yx i p us ρ (some (some u))=(p u us).bind λz=>.ok (z.1,ρ.set i (some z.2)):=nr rfl
def ZM (T:String)(i:Nat)(p:U->List U->R (U×U))(ga:Ev->R (List U×Ev))(ρ:Ev)(o:Option (Option U)):R (U×Ev):=match o with
 |some (some u1)=>if G8 u1 T=true then (ga ρ).bind λx=>Yx i p x.1 x.2 x.2[i]? else .stk
 |_=>.stk
def Qe {T:String}{p:U->List U->R (U×U)}:ZM T i p ga ρ (some (some u))=if G8 u T=true then (ga ρ).bind λx=>Yx i p x.1 x.2 x.2[i]? else .stk:=nr rfl
def ZN {T:String}{p:U->List U->R (U×U)}:gM T i p ga ρ=ZM T i p ga ρ ρ[i]? := nr rfl
def J1:G8 (.lst us) "list"=true:=nr rfl
def FA:nH ρ=.ok (none,ρ):=nr rfl
def ZO (u:U)(ρ:Ev):R (Option Int×Ev):=match u with
 | .int i=>.ok (some i,ρ)
 |_=>.stk
def Qf {k:Int}:ZO (.int k) ρ=.ok (some k,ρ):=nr rfl
def FC:l6 g ρ=(g ρ).bind λx=>ZO x.1 x.2:=nr rfl
def VL {p:U->Option Int->Option Int->R U}{lo hi:Ev->R (Option Int×Ev)}:MO p g lo hi ρ=(g ρ).bind λx=>(lo x.2).bind λl=>(hi l.2).bind λh=>(p x.1 l.1 h.1).bind λz=>.ok (z,h.2):=nr rfl
def J3:bU ρ=.nx ρ:=nr rfl
def Qg:aD s1 s2 ρ=(s1 ρ).seq s2:=nr rfl
def J6:(SR.nx ρ).seq s=s ρ:=nr rfl
def J7:(SR.rt u ρ).seq s=.rt u ρ:=nr rfl
def J_:jW g ρ=SR.of (g ρ) λx=>.nx x.2:=nr rfl
def Qh:bx g ρ=SR.of (g ρ) λx=>.rt x.1 x.2:=nr rfl
def Qi:bg i g ρ=SR.of (g ρ) λx=>.nx (x.2.set i (some x.1)):=nr rfl
def Qk:j_ h s1 s2 ρ=SR.of (h ρ) λx=>if x.1=true then s1 x.2 else s2 x.2:=nr rfl
noncomputable def VM (i j:Nat)(us:List U)(ρ:Ev):SR:=match us with
 | [u,w]=>.nx ((ρ.set i (some u)).set j (some w))
 |_=>.stk
def Qm:Se i j ga ρ=SR.of (ga ρ) λx=>VM i j x.1 x.2:=nr rfl
theorem Kb:VM i j [u,w] ρ=.nx ((ρ.set i (some u)).set j (some w)):=nr rfl
def XB (i:Nat)(v k:U)(ρ:Ev)(o:Option (Option U)):SR:=match k with
 | .int k=>match o with
  |some (some (.lst us))=>match Am us.length k with
   |some j=>.nx (ρ.set i (some (.lst (us.set j v))))
   |none=>.stk
  |_=>.stk
 |_=>.stk
def Kc:rH i g1 g2 ρ=SR.of (g1 ρ) λx=>if Fy x.2[i]? = true then SR.of (g2 x.2) λy=>XB i x.1 y.1 y.2 y.2[i]? else .stk:=nr rfl
theorem FE {k:Int}(h:Am us.length k=some j):XB i w (.int k) ρ (some (some (.lst us)))=.nx (ρ.set i (some (.lst (us.set j w)))):=by
 unfold XB;dsimp only;rw[h]
def Qo {gi:Ev->R (List U×Ev)}{sg:U->Ev->R Ev}:iu gi sg s ρ=SR.of (gi ρ) λx=>dO sg s x.1 x.2:=nr rfl
def y8 {sg:U->Ev->R Ev}:dO sg s [] ρ=.nx ρ:=nr rfl
def dE:dO sg s (u::us) ρ=SR.of (sg u ρ) λη=>(s η).turn (dO sg s us):=nr rfl
def jZ:(SR.nx ρ).turn s=s ρ:=nr rfl
def FI:l7 h s (n+1) ρ=SR.of (h ρ) λx=>if x.1=true then (s x.2).turn (l7 h s n) else .nx x.2:=nr rfl
noncomputable def jc (u:U)(ρ:Ev):R (List U×Ev):=match u with
 | .lst us=>.ok (us,ρ)
 | .tup us=>.ok (us,ρ)
 | .scr us=>.ok (us,ρ)
 |_=>.stk
def Ke:cP g ρ=(g ρ).bind λx=>jc x.1 x.2:=nr rfl
def Kg:jc (.lst us) ρ=.ok (us,ρ):=nr rfl
def Dn:jc (.tup us) ρ=.ok (us,ρ):=nr rfl
def sZ (us:List U)(ρ:Ev):R (List U×Ev):=match us with
 | [.int j]=>if -1000000<=j/\j<=1000000 then .ok (bu 0 j.toNat,ρ) else .stk
 |_=>.stk
def Ki:gG ga ρ=(ga ρ).bind λx=>sZ x.1 x.2:=nr rfl
def SH {k:Int}:sZ [.int k] ρ=if -1000000<=k/\k<=1000000 then .ok (bu 0 k.toNat,ρ) else .stk:=nr rfl
def FJ (us:List U)(ρ:Ev):R (U×Ev):=match us with
 | [.int j]=>if A7 0 j=true then .ok (.lst (bu 0 (j-0).toNat),ρ) else .stk
 |_=>.stk
def Bi (us:List U)(ρ:Ev):R (U×Ev):=match us with
 | [.int j]=>if A7 0 j=true then .ok (.tup (bu 0 (j-0).toNat),ρ) else .stk
 |_=>.stk
def Kj:A8 ga ρ=(ga ρ).bind λx=>FJ x.1 x.2:=nr rfl
def Kk:Fg ga ρ=(ga ρ).bind λx=>Bi x.1 x.2:=nr rfl
theorem Qp {k:Int}(h0:0<=k)(h1:k<=1000000):A7 0 k=true:=by
 unfold A7;lia
theorem y9 (n:Nat)(h:n<=1000000):FJ [.int n] ρ=.ok (.lst (bu 0 n),ρ):=by
 unfold FJ;dsimp only;rw[hZ (Qp (by lia) (by lia)),show ((n:Int)-0).toNat=n by rfl]
theorem FK (n:Nat)(h:n<=1000000):Bi [.int n] ρ=.ok (.tup (bu 0 n),ρ):=by
 unfold Bi;dsimp only;rw[hZ (Qp (by lia) (by lia)),show ((n:Int)-0).toNat=n by lia]
theorem gI (n:Nat)(h:n<=1000000):sZ [.int n] ρ=.ok (bu 0 n,ρ):=by
 rw[SH,hZ (by (simp;lia))];rfl
def Qq {gi:Ev->R (List U×Ev)}{js:List (Option Nat)}{sg:U->Ev->R Ev}:eU gi js sg h g ρ=(gi ρ).bind λx=>(G_ (nI js sg h g x.2) x.1).bind λys=>.ok (.lst ys,x.2):=nr rfl
def Qr {G:Gm}{gi:Ev->R (List U×Ev)}{js:List (Option Nat)}{sg:U->Ev->R Ev}:C5 G gi js sg h g ρ=(gi ρ).bind λx=>(sX G js sg h g x.1 x.2).bind λy=>.ok (.lst y.1,y.2):=nr rfl
def Qs {js:List (Option Nat)}{sg:U->Ev->R Ev}:nI js sg h g ρ u=(sg u (kA js ρ)).bind λΔ=>(h Δ).bind λc=>if c.1=true then (g Δ).bind λy=>.ok (some y.1) else .ok none:=nr rfl
def SI:sX G js sg h g (u::us) ρ=(sg u (kA js ρ)).bind λΔ=>(h Δ).bind λc=>if c.1=true then (g c.2).bind λy=>(sX G js sg h g us (wb G js y.2 ρ)).bind λr=>.ok (y.1::r.1,r.2) else sX G js sg h g us (wb G js c.2 ρ):=nr rfl
def Kn:bO ρ=.ok (true,ρ):=nr rfl
def Qt:ba i u ρ=.ok (ρ.set i (some u)):=nr rfl
def VO:PZ ρ=.ok (.dct [] [],ρ):=nr rfl
def Ko:cZ m n s us=Bh m (s (gz n us)):=nr rfl
def FN:Bh m (.rt u ρ)=.ok u:=nr rfl
def Kp:C6 n s us=SG (s (gz n us)):=nr rfl
def FO:SG (.rt u ρ)=io0 u ρ[0]? := nr rfl
theorem Qu:io0 u (some (some w))=.ok (u,w):=nr rfl
def Bj {ρ:Ev}:kA [] ρ=[]:=nr rfl
def xX {js:List (Option Nat)}:kA (none::js) ρ=none::kA js ρ:=nr rfl
theorem xY {js:List (Option Nat)}:kA (some j::js) ρ=(ρ[j]?).getD none::kA js ρ:=by
 unfold kA;rw[aal];dsimp only;cases ρ[j]? <;> rfl
end
section
variable {i j k:Int}{ws:List U}{w:U}{lo:Option Int}
def Kq:iM (.int i) (.int j)=.ok (.int (i+j)):=nr rfl
def Kr:iM (.tup us) (.tup ws)=if us.length+ws.length<=aaf then .ok (.tup (us++ws)) else .stk:=nr rfl
def Qv:qz (.int i) (.int j)=.ok (.int (i-j)):=nr rfl
def Qw:ja (.int i) (.int j)=if lq i j=true then .ok (.int (i*j)) else .stk:=nr rfl
def Dq:jb (.int i) (.int j)=if C7 i j=true then .ok (.int (i / j)) else .stk:=nr rfl
def Qx:uN (.int i) (.int j)=if decide (0<j)=true then .ok (.int (i % j)) else .stk:=nr rfl
def Qy:NK (.int i) (.int j)=if NJ i j=true then .ok (.int (i ^ j.toNat)) else .stk:=nr rfl
def Qz:Jx (.int i)=.ok (.int (-i)):=nr rfl
def VP:Xv (.int i) (.int j)=.ok (.bl (decide (i<j))):=nr rfl
def VQ:Xw (.int i) (.int j)=.ok (.bl (decide (i<=j))):=nr rfl
def VR:Xx (.int i) (.int j)=.ok (.bl (decide (j<i))):=nr rfl
def VS:Yr (.int i) (.int j)=.ok (.bl (decide (j<=i))):=nr rfl
def xZ:dq (.lst us) (.int i)=XA (qj us i):=by rfl
def uX:dq (.tup us) (.int i)=XA (qj us i):=by rfl
def QA:dq (.scr us) (.int i)=XA (qj us i):=by rfl
def QB:XA (some u)=.ok u:=nr rfl
def QC:yT (.lst us) lo hi=.ok (.lst (kC us lo hi)):=nr rfl
def Kt:yT (.tup us) lo hi=.ok (.tup (kC us lo hi)):=nr rfl
def y_:gy [.lst us]=.ok (.int us.length):=nr rfl
def mj:gy [.tup us]=.ok (.int us.length):=nr rfl
def Ku:gy [.scr us]=.ok (.int us.length):=nr rfl
def Kv:bJ [.lst us]=.ok (.tup us):=nr rfl
def QF {f:Bool->Bool}:l_ f u .non=.ok (.bl (f (rJ u))):=nr rfl
def Kz:uP [.int i,.int j]=.ok (.int (if j<i then j else i)):=nr rfl
def KA:AX [.int i,.int j]=.ok (.int (if j>i then j else i)):=nr rfl
theorem VT {f:Bool->Bool}:NL f u w=(o_ u w).bind λb=>.ok (.bl (f b)):=nr rfl
theorem j0 (n:Nat):qj us (n:Int)=us[n]? := by
 unfold qj Am;grind
def QG:qj us 0=us[0]? := j0 0
def QH:qj us 1=us[1]? := j0 1
def QI:qj us 2=us[2]? := j0 2
theorem VU (h:0<us.length):Am us.length 0=some 0:=by simp_all[Am,hZ]
theorem zc (h0:0<j)(h1:j<18446744073709551616):C7 i j=true:=by unfold C7;simp[h0,h1]
theorem ze (h0:0<=i)(h1:i<18446744073709551616):lq i j=true:=by
 unfold lq;lia
theorem mm (h0:0<=j)(h1:j<18446744073709551616):lq i j=true:=by
 unfold lq;simp only[ads,aaC,decide_eq_true_eq];exact .inr ⟨by lia,by lia⟩
end
end L2
namespace L2
theorem QJ {i:Nat}{w u:U}{us:List U}{ρ:Ev}:XB i w (.int 0) ρ (some (some (.lst (u::us))))=.nx (ρ.set i (some (.lst (w::us)))):=by
 rw[FE (VU (by rw[aaw];lia))];rfl
theorem pD {G:Gm}{js:List (Option Nat)}{sg:U->Ev->R Ev}{ge:Ev->R (U×Ev)}{σ:Type}(ev:σ->Ev)(N:Nat)(I:List U->σ->Prop)
  (step:∀done u s,done.length<N->I done s->∃Δ y Ë s',sg u (kA js (ev s))=.ok Δ/\ge Δ=.ok (y,Ë)/\wb G js Ë (ev s)=ev s'/\I (done++[y]) s') :
  ∀(us done:List U) (s:σ),done.length+us.length<=N->I done s->∃ys s',sX G js sg bO ge us (ev s)=.ok (ys,ev s')/\ys.length=us.length/\I (done++ys) s'
 | [],done,s,_,h=>⟨[],s,rfl,rfl,by rw[abG];exact h⟩
 |u::us,done,s,hl,h=>by
  rw[aaw] at hl;obtain⟨Δ,y,Ë,s',e1,e2,e3,h'⟩:=step done u s (by lia) h;obtain⟨ys,Rf,e4,e5,ú⟩:=pD ev N I step us _ s' (by rw[aay,acj];lia) h';refine⟨y::ys,Rf,?_,by rw[aaw,aaw,e5],by rw[acg] at ú;exact ú⟩;rw[SI,e1,Hw,Kn,Hw,hZ rfl,e2,Hw,e3,e4,Hw]
theorem cF {s:Ev->SR}(I:Nat->Ev->Prop)(step:∀(i:Nat) (u:U) (ρ:Ev),us[i]? = some u->I i ρ->∃η ν,sg u ρ=.ok η/\(s η=.nx ν\/s η=.ct ν)/\I (i+1) ν)(h:I 0 ρ) :
  ∃ε,dO sg s us ρ=.nx ε/\I us.length ε:=by
 have gen:∀(n i:Nat) (ρ:Ev),i+n=us.length->I i ρ->∃ε,dO sg s (us.drop i) ρ=.nx ε/\I us.length ε:=by
  intro n
  induction n with
  |zero=>
   intro i ρ hi h;have:i=us.length:=by lia
   subst this;rw[ac8];exact⟨ρ,rfl,h⟩
  |succ n ih=>
   intro i ρ hi h;have xv:i<us.length:=by lia
   obtain⟨η,ν,e1,e2,h2⟩:=step i us[i] ρ (aad xv) h;obtain⟨ε,e3,h3⟩:=ih (i+1) ν (by lia) h2;refine⟨ε,?_,h3⟩;rw[abv xv,dE,e1,ju];rcases e2 with e2|e2<;>(rw[e2];exact e3)
 have:=gen us.length 0 ρ (by lia) h
 rwa [aeH] at this
theorem mY (ns:List Int):ke (ns.map .int)=some (ns.map .int):=by
 induction ns with
 |nil=>rfl
 |cons n ns ih=>rw[aal];unfold ke;rw[ih];rfl
theorem uY (ns:List Int):lP (ns.map .int)=0:=by
 induction ns with
 |nil=>rfl
 |cons n ns ih=>rw[aal];unfold lP;rw[ih];rfl
theorem x8:∀(ns ms:List Int),lQ (ns.map .int) (ms.map .int)=decide (ns=ms)
 | [],[]=>by rfl
 | [],m::ms=>by simp[lQ]
 |n::ns,[]=>by simp[lQ]
 |n::ns,m::ms=>by
  rw[aal,aal];unfold lQ k8;rw[x8 ns ms,abo];simp
theorem KC (ns ms:List Int):o_ (.tup (ns.map .int)) (.tup (ms.map .int))=.ok (decide (ns=ms)):=by
 unfold o_;have e1:∀ns:List Int,l9 (.tup (ns.map .int))=some _:=λns=>by unfold l9;rw[mY];rfl
 simp_all[hZ,fj,uY,k8,x8]
theorem N7 (a b:Int):o_ (.int a) (.int b)=.ok (a==b):=by
 rfl
def aQ (n:Nat):List Int:=(aax n).map λi=>(i:Nat)
theorem gJ (n:Nat):bu 0 n=(aQ n).map .int:=by
 simp[bu,aQ,aat,aav,afB]
theorem iy (n:Nat):(aQ n).length=n:=by unfold aQ;rw[aaa,aaJ]
theorem uZ {x:Int}:x∈aQ n↔0<=x/\x<n:=by
 unfold aQ;rw[aan];constructor
 ·rintro⟨i,h,rfl⟩;have:=aaH.mp h;lia
 ·intro h;exact⟨x.toNat,aaH.mpr (by lia),by lia⟩
theorem Dr (us:List U)(c:U->Bool):Hd [.lst (us.map λu=>.bl (c u))]=.ok (.bl (us.all c)):=by
 have e:us.map (λu=>U.bl (c u))=(us.map c).map .bl:=by rw[aat];rfl
 unfold Hd;dsimp only;rw[e,Hb];dsimp only;rw[List.all_map];rfl
end L2
namespace L2
def ax:=zyy @P5<|zyy @JV<|zyy @ZI<|zyy @Hw<|zyy @ju<|zyy @VD<|zyy @ZJ<|zyy @P7<|zyy @JW<|zyy @P8<|zyy @JX<|zyy @VF<|zyy @Fw<|zyy @VG<|zyy @JY<|zyy @Fx<|zyy @JZ<|zyy @J0<|zyy @VH<|zyy @VI<|zyy @Qc<|zyy @Fz<|zyy @VJ<|zyy @Qd<|zyy @Qe<|zyy @ZN<|zyy @J1<|zyy @FA<|zyy @Qf<|zyy @FC<|zyy @VL<|zyy @J3<|zyy @Qg<|zyy @J6<|zyy @J7<|zyy @J_<|zyy @Qh<|zyy @Qi<|zyy @Qk<|zyy @Qm<|zyy @Kb<|zyy @Kc<|zyy @Qo<|zyy @jZ<|zyy @Ke<|zyy @Kg<|zyy @Dn<|zyy @Ki<|zyy @Kj<|zyy @Kk<|zyy @Qq<|zyy @Qr<|zyy @Qs<|zyy @Kn<|zyy @Qt<|zyy @VO<|zyy @Ko<|zyy @FN<|zyy @Kp<|zyy @FO<|zyy @Qu<|zyy @Bj<|zyy @xX<|zyy @xY<|zyy @Kq<|zyy @Kr<|zyy @Qv<|zyy @Qw<|zyy @Dq<|zyy @Qx<|zyy @Qy<|zyy @Qz<|zyy @VP<|zyy @VQ<|zyy @VR<|zyy @VS<|zyy @xZ<|zyy @uX<|zyy @QA<|zyy @QB<|zyy @QC<|zyy @Kt<|zyy @y_<|zyy @mj<|zyy @Ku<|zyy @Kv<|zyy @QF<|zyy @Kz<|zyy @KA<|zyy @VT<|zyy @QG<|zyy @QH<|zyy @QI<|zyy @Qa @QJ
end L2
namespace Hc.Zp
abbrev Yy (l:Bool)(h:ac5)(a:aaL):ac5:=(Yw l h a).push {cls:=.type "enumerate",data:=.fields #[.none,.bool false,.ref h.objs.size,rawInt 0,.none,.none]}
theorem Hx (l:Bool)(a:aaL)(xs:Array aao):Meets (Builtin.«enumerate.__new__» ⟨[.type "enumerate",.ref a],[]⟩) (λ_ R s=>yZ l s.heap a xs/\R (.ok (.ret (.ref (Yw l s.heap a).objs.size))) {s with heap:=Yy l s.heap a}):=
 .of_wp λprog w A R s h=>by
  obtain⟨hp,g,d,tk,os⟩:=s;obtain⟨g1,h⟩:=h;have sb:=sub_enumerate;have q1:=g1;have:∃o,hp.get? a=some o:=by
   cases l with
   |true=>obtain⟨o,e,_⟩:=g1;exact⟨o,e⟩
   |false=>obtain⟨o,e,_⟩:=g1;exact⟨o,e⟩
  wp_walk using acp ho;refine wpAny_stack_any λst=>aah ?_;split
  ·rename_i c _ _ _ _ _;cases (c==Value.type _)
   ·wp_walk using acp ho,y0 q1;exact⟨_,rfl,h⟩
   ·wp_walk using acp ho,y0 q1;exact⟨_,rfl,h⟩
  ·wp_walk using acp ho,y0 q1;exact⟨_,rfl,h⟩
section
variable {A:abd}
theorem Ds {e:aaL}{xs:Array aao}{x Β:aao}(he:IsEnum s.heap e it i Β)(hi:oq l s.heap it a i)(ha:yZ l s.heap a xs)(hx:xs[i]? = some x)(Ao:e≠it)(hQ:∀h',IsEnumOut h' e it ((i:Int)+1) x s.heap.objs.size->oq l h' it a (i+1)->IsPair h' s.heap.objs.size (.int i s.toks) x->(∀b o,b≠e->b≠it->s.heap.get? b=some o->h'.get? b=some o)->Q (.ref s.heap.objs.size) {s with heap:=h',toks:=s.toks+1}) :
  aaT (aaX prog w) A (Builtin.«enumerate.__next__» ⟨[.ref e],[]⟩) (λfin s'=>∃v,fin=.done (.ret v)/\Q v s') E s:=by
 obtain⟨hp,g,d,tk,os⟩:=s;show aaT _ _ (field (.ref e) 2 >>= _) _ _ _;refine aab (abD he rfl rfl (aab (Hv hi ha hx λw1 n1 b1=>?_)));have e1:=(b1.2 e Ao).trans he;refine aab (abD e1 rfl rfl ?_);refine aab (abD e1 rfl rfl ?_);refine aab (wpAny_mkInt ?_);refine aab (abL e1 (by simp) λw2 e2 b2=>?_);refine aab (abL e2 (by simp[*]) λw3 e3 b3=>?_);refine aab (wpAny_newTuple ?_);have sz:w3.objs.size=hp.objs.size:=by rw[b3.1,b2.1,b1.1]
 have le:=aaF he;have t4:IsPair _ w3.objs.size (.int i tk) x:=aas _ rfl;have e4:IsEnum (w3.push {cls:=.type "tuple",data:=.seq #[.int i tk,x]}) e it _ Β:=aak _ e3;have k4:∀b o,b≠e->w1.get? b=some o->(w3.push {cls:=.type "tuple",data:=.seq #[.int i tk,x]}).get? b=some o:=λb o c y=>aak _ (b3.extBut b o c (b2.extBut b o c y));generalize w3.push _=w4 at t4 e4 k4;rw[sz] at t4 ⊢;refine aab ?_;refine aab (abD e4 rfl rfl (aah ?_));refine aab (ae9 (aab (abD e4 rfl (x:=Β) rfl (aab (abL e4 (by simp) λw5 e5 b5=>?_)))));refine aab ?_;refine aab (abL e5 (by simp[*]) λw6 e6 b6=>?_);refine abL e6 (by simp[*]) λw7 e7 b7=>?_;have up:=λb o c y=>b7.extBut b o c (b6.extBut b o c (b5.extBut b o c y));exact aab (wpAny_letGo (aah ⟨_,rfl,hQ w7 e7 (n1.at λo y=>up _ o Ao.symm (k4 _ o Ao.symm y)) (up _ _ (acZ le) t4) λb o c1 c2 y=>up b o c1 (k4 b o c1 (b1.extBut b o c2 y))⟩))
theorem Dt {e:aaL}{xs:Array aao}{x Β:aao}{Q:Option aao->aaE->Prop}(he:IsEnum s.heap e it i Β)(hi:oq l s.heap it a i)(ha:yZ l s.heap a xs)(hx:xs[i]? = some x)(Ao:e≠it)(hQ:∀h',IsEnumOut h' e it ((i:Int)+1) x s.heap.objs.size->oq l h' it a (i+1)->IsPair h' s.heap.objs.size (.int i s.toks) x->(∀b o,b≠e->b≠it->s.heap.get? b=some o->h'.get? b=some o)->Q (some (.ref s.heap.objs.size)) {s with heap:=h',toks:=s.toks+1}) :
  aaT (aaX prog w) A (pyNext (.ref e)) Q E s:=by
 have hT:s.TypeIs (.ref e) _:=⟨_,he,rfl⟩;exact aab (acN (aa7 hT adz (aa4 adz hT F.entry_enumerate_next (Ds he hi ha hx Ao λh' c1 c2 c3 c4=>aah (hQ h' c1 c2 c3 c4)) (F.args_enumerate_next_1 _))))
theorem Dv {e:aaL}{xs:Array aao}{Β:aao}{Q:Option aao->aaE->Prop}(hh:A.handled=none)(he:IsEnum s.heap e it i Β)(hi:oq l s.heap it a i)(ha:yZ l s.heap a xs)(hx:xs[i]? = none)(hQ:∀h',afg it s.heap h'->Q none {s with heap:=h'}):aaT (aaX prog w) A (pyNext (.ref e)) Q E s:=by
 have hT:s.TypeIs (.ref e) _:=⟨_,he,rfl⟩;refine aab (acN (aa7 hT adz (aa4 adz hT F.entry_enumerate_next ?_ (F.args_enumerate_next_1 _))));show aaT _ _ (field (.ref e) 2 >>= _) _ _ _;refine aab (abD he rfl rfl (aab (JU hh hi ha hx λh' x b1 ⟨o,ho,hc⟩=>?_)));exact aab (ac7 ⟨o,ho,hc⟩ afH (aah (hQ _ b1)))
theorem Dx {xs:Array aao}(ha:yZ l s.heap a xs)(h:∀h',IsEnum h' (s.heap.objs.size+1) s.heap.objs.size 0 .none->oq l h' s.heap.objs.size a 0->(∀b o,s.heap.get? b=some o->h'.get? b=some o)->Q (.ref (s.heap.objs.size+1)) {s with heap:=h'}) :
  aaT (aaX prog w) A (call (.type "enumerate") [.ref a]) Q E s:=by
 refine callType_new F.called_enumerate (by decide) (F.typeCall_enumerate_1 _) (F.newCall_enumerate_1 _) (λobj=>F.args_object_init_2 obj _) F.entry_enumerate_new (Hx l a xs) ⟨ha,?_⟩;have z1:(Yw l s.heap a).objs.size=s.heap.objs.size+1:=ab7 ..;have e1:(Yy l s.heap a).get? _=some _:=aas _ rfl;rw[z1] at e1 ⊢;refine⟨⟨_,e1,rfl⟩,h _ e1 ?_ λb o x=>aak _ (aak _ x)⟩;have e2:(Yy l s.heap a).get? _=some _:=aak _ (aas _ rfl);cases l with
 |true=>exact⟨_,e2,rfl,rfl⟩
 |false=>exact⟨_,e2,rfl,rfl⟩
end
end Hc.Zp
namespace L2
open Hc.Zp
def ZQ (K:aam)(l:Bool)(a:aaL):It:=
  ⟨λi H=>∃xs x,N6 l K H a xs/\xs[i]? = some x,
   λi H v H'=>∃T x,v=.ref T/\H T=none/\H'=dz H T (.tup [.int i,x])/\∀xs,N6 l K H a xs->xs[i]? = some x,
   λi H=>∃xs,N6 l K H a xs/\xs.length<=i⟩
theorem Hy {z:aaL}(D:z≠it) :
  CG P w K (.Tuple Τ kt tp) (ZQ K l a) [z,it] z (λi h=>(∃Β,IsEnum h z it i Β)/\oq l h it a i) where
 mem:=by simp
 obj:=λi h ⟨⟨Β,hz⟩,h1⟩ b hb=>by
  obtain⟨o1,e1,d1,_⟩:=h1.obj;grind
 keep:=λi h h' ⟨⟨Β,hz⟩,h1⟩ k=>⟨⟨Β,k z (by simp) _ hz⟩,h1.at λo e=>k it (by simp) o e⟩
 item:=by
  intro X hP hw hK hc i ċ s σ H E I hf st hg;subst hP hw hK;obtain⟨⟨Β,hz⟩,h1⟩:=st;obtain⟨xs,x,q1,hx⟩:=hg;obtain⟨û,v1,g1⟩:=I.sq q1;obtain⟨u1,jK,r1⟩:=v1.get hx;obtain⟨o1,e1,_,_⟩:=h1.obj;have lz:=aaF hz;have l1:=aaF e1;refine Dt hz h1 g1 (by simpa using jK) D λh' c1 c3 c5 kp=>⟨_,rfl,?_⟩;refine wpAny_letOwnedTupleGo_enum c1 λUh z2 sb=>?_;have Uj:=sb.extBut _ _ (acZ lz) c5;have kp2:∀b o,b∉[z,it]->s.heap.get? b=some o->Uh.get? b=some o:=λb o hb e=>by
   simp only[aaA,ac6,or_false,not_or] at hb;exact sb.extBut _ _ hb.1 (kp b o hb.1 hb.2 e)
  have I2:aG X ċ σ (dz H _ (.tup [.int i,x])) {s with heap:=Uh,toks:=s.toks+1}:=I.turnNew hf kp2 (aaq _) ⟨by rw[acq];simp,[.int i s.toks,u1],.cons ⟨_,rfl⟩ (.cons r1 .nil),⟨_,Uj,rfl,_,rfl⟩,_,Uj⟩;refine⟨.ref _,_,I2,rfl,⟨_,x,rfl,I.hok.fresh (aaq _),rfl,λzs hq=>by rw[I.sq_inj hq q1];exact hx⟩,⟨⟨_,z2⟩,c3.at λo e=>sb.extBut _ _ D.symm e⟩,λb hb=>?_⟩;have hn:b≠s.heap.objs.size:=by
   grind
  rw[bB hn];exact (hf b hb).1
 done:=by
  intro X hP hw hK hc i ċ s σ H E I hf st hg;subst hP hw hK;obtain⟨⟨Β,hz⟩,h1⟩:=st;obtain⟨xs,q1,he⟩:=hg;obtain⟨û,v1,g1⟩:=I.sq q1;have n1:=v1.length;refine Dv (I.ok.hd hc) hz h1 g1 (by simp;lia) λh' kp=>⟨rfl,I.turneds hf λb o hb e=>?_⟩;simp only[aaA,ac6,or_false,not_or] at hb;exact kp b o hb.2 e
 self:=λ_ _ _ _ _ ⟨⟨_,z⟩,_⟩ h=>wpAny_pyIter_enum z h
section
variable {p pos:Pos}{a:ab6}
def zf:abk "enumerate"=some (.type "enumerate"):=by rfl
def VX (K:aam)(ta:TA):TI:=λσ H R=>ta σ H λvs H1=>∃l a xs,vs=[.ref a]/\N6 l K H1 a xs/\R (ZQ K l a) H1
theorem N8 {ta:TA}(hg:Gl X "enumerate")(hm:X.mg "enumerate"=none)(ha:PA X [a] ta)(hs:aaN [a] X.env=[(false,adM a X.env)]:=by rfl) :
  PI X (.Tuple Τ kt tp) (.Call (.Name "enumerate" p) [a] [] pos) (VX X.K ta):=by
 intro ċ s σ H R I h;refine Call_ (ur I hg hm zf (adl (fg (ha pos ċ s σ H _ I h) λus s1 ⟨vs,H1,I1,r1,q1⟩=>?_) (by rw[hs];rfl) (by rfl)));obtain⟨l,a1,xs,rfl,g1,q⟩:=q1;cases r1 with
 |cons r rr=>
  cases rr;cases r;obtain⟨û,v1,m1⟩:=I1.sq g1;refine Dx m1 λh' z1 z2 kp=>wpAny_pyIter_enum z1 ?_;refine⟨_,[s1.heap.objs.size+1,s1.heap.objs.size],_,_,H1,rfl,I1.kept λb o e=>kp b o e,Hy (Nat.succ_ne_self _),⟨⟨_,z1⟩,z2⟩,λb hb=>?_,q⟩;have hb:s1.heap.objs.size<=b:=by
   grind
  exact I1.fpOk hb (I1.hok.fresh hb)
end
def ya:Nat->List U->List U
 |_,[]=>[]
 |i,u::us=>.tup [.int i,u]::ya (i+1) us
theorem qG:∀(us:List U) (i:Nat),(ya i us).length=us.length
 | [],_=>rfl
 |_::us,i=>congrArg (·+1) (qG us (i+1))
theorem yb:∀(us:List U) (i k:Nat) (w:U),(ya i us)[k]? = some w->∃u,us[k]? = some u/\w=.tup [.int (i+k:Nat),u]
 | [],_,_,_,h=>by cases h
 |u::us,i,0,w,h=>⟨u,rfl,by cases h;rfl⟩
 |u::us,i,k+1,w,h=>by
  obtain⟨u',h1,h2⟩:=yb us (i+1) k w h;exact⟨u',h1,by rw[h2,show i+1+k=i+(k+1) by lia]⟩
def KD (ga:Ev->R (List U×Ev)):Ev->R (List U×Ev):=λρ=>(ga ρ).bind λx=>match x.1 with
 | [u]=>match SE u with
  |some us=>.ok (ya 0 us,x.2)
  |_=>.stk
 |_=>.stk
section
variable {p1 pos:Pos}{a:ab6}{b1:Bool}{ga:Ev->R (List U×Ev)}
theorem N9 (ha:DA X G [a] b1 false ga)(hm:X.mg "enumerate"=none)(hg:Gl X "enumerate":=by rfl)(hs:aaN [a] X.env=[(false,adM a X.env)]:=by rfl) :
  DI X G (.Tuple Τ kt tp) (.Call (.Name "enumerate" p1) [a] [] pos) b1 false (KD ga):=⟨(N8 hg hm ha.un hs).to λσ H RR θ=>by
 obtain⟨Z,A,ρ,q,f⟩:=θ;unfold KD at f;cases e1:ga ρ with
 |stk=>rw[e1] at f;exact f.elim
 |exc=>rw[e1] at f;exact f.elim
 |ok y=>
  obtain⟨us,η⟩:=y;rw[e1] at f;dsimp only[L2.R.bind] at f;refine⟨Z,A,ρ,q,?_⟩;rw[e1];intro vs H1 q1 x1 s1 vm;split at f
  ·rename_i ą ε e2;split at e2
   ·split at e2
    ·rename_i as ea;cases e2;have r:=vm.rps;obtain⟨v,vr,rfl,r1,r2⟩:=r;subst r2;obtain⟨l1,a1,xs,rfl,n1,z1,k1,Cs⟩:=SF ea r1;refine⟨l1,a1,xs,rfl,k1,f _ H1 q1 x1 s1 ⟨by rw[qG];exact n1,λH2 A' hx Ie=>?_⟩⟩;have Zd:=Cs H2 hx q1.mu;have w1:=z1.re q1.mu hx Ie;refine⟨λi u hu=>?_,⟨xs,Zd,by rw[qG,←z1.length];exact aaq _⟩⟩;obtain⟨ua,hA,rfl⟩:=yb as 0 i u hu;rw[abw];obtain⟨x,ă,px⟩:=w1.get hA;refine⟨⟨xs,x,Zd,ă⟩,λx' H' yl=>?_⟩;obtain⟨T,x2,rfl,hT,rfl,g1⟩:=yl;have ex:x2=x:=by have:=g1 xs Zd;rw[ă] at this;cases this;rfl
     subst ex;have sm:=cD hT (.tup [.int i,x2]);refine⟨sm,?_⟩;exact⟨T,_,rfl,bD,by have:aaf=16777216:=rfl;rw[this];simp,aU.cons dJ (aU.cons (px.same sm) aU.nil)⟩
    ·cases e2
   ·cases e2
  lia⟩
end
end L2
namespace Hc.Dw
def mq (h:ac5)(a:aaL)(ds:Array aeM)(ep:Nat):Prop:=∃o,h.get? a=some o/\o.ExactDict/\o.data=.dict ds ep
theorem mq.ty {ds:Array aeM}(x:mq s.heap a ds ep):s.TypeIs (.ref a) "dict":=by
 obtain⟨o,e,c,_⟩:=x;exact⟨o,e,c.1⟩
theorem mq.at {ds:Array aeM}(x:mq h a ds ep)(e:∀o,h.get? a=some o->h'.get? a=some o):mq h' a ds ep:=by
 obtain⟨o,q,r⟩:=x;exact⟨o,e o q,r⟩
theorem mq.lt {ds:Array aeM}(x:mq h a ds ep):a<h.objs.size:=by obtain⟨o,e,_⟩:=x;exact aaF e
section
variable {A:abd}{d vw:aaL}{ds:Array aeM}
theorem VY (lo:(d==acf)=false)(x:mq s.heap d ds ep)(q:Q (.ref s.heap.objs.size) {s with heap:=s.heap.push {cls:=.type "dict_keyiterator",data:=.fields #[.ref d,.int 0 0,.int ds.size 0,.int ep 0]}}):aaT (aaX prog w) A (pyIter (.ref d)) Q E s:=by
 have ty:=x.ty;obtain⟨od,e1,e2,e3⟩:=x;refine adJ ty F.slot_dict_iter (aa4 F.slot_dict_iter ty F.entry_dict_iter ?_ (F.args_dict_iter_1 _));refine aab ?_;refine aab (wpAny_notOrdered_dict ty ?_);refine aah ?_;change aaT _ _ (aeP d >>= _) _ _ s;unfold aeP;rw[hV (by rw[lo];exact aaB)];refine aab (aah (aab (acY e1 e3 (aab (adA e1 e3 ?_)))));refine aab (abc (aah ⟨_,rfl,"dict_keyiterator",_,⟨_,aas _ rfl,rfl⟩,F.slot_dict_keyiterator_next.lookup,?_⟩));simpa [rawInt] using q
theorem VZ {Q:Option aao->aaE->Prop}(t:s.heap.IsKeyIter it d i ds.size ep)(x:mq s.heap d ds ep)(hi:i<ds.size)
  (q:∀h',h'.IsKeyIter it d (i+1) ds.size ep->acL it s.heap h'->Q (some ds[i].key) {s with heap:=h'}):aaT (aaX prog w) A (pyNext (.ref it)) Q E s:=by
 have ty:=t.typeIs;obtain⟨oi,i1,i2,i3⟩:=t;obtain⟨od,e1,e2,e3⟩:=x;refine aab (acN (aa7 ty acx (aa4 acx ty aeZ ?_ (aeQ _))));refine aab (aah (aab (aab ?_)))
 first|refine aab (acu ty (aah ?_))|refine aab _
 refine aab (adT i1 i3 ?_);refine aab (aah (aab (acY e1 e3 ?_)));rw[hV (by simp)];refine aab (aah (aab (adA e1 e3 ?_)));rw[hV (by simp)];refine aah ?_;simp only[abt,aaR hi];refine aab ?_
 first|refine aab (acu ty (aah ?_))|refine aab _
 refine aab (wpAny_isOneOf_keyiter ty ?_);change aaT _ _ (setField _ 1 _ >>= _) _ _ s;refine aab (acP i1 i3 (by simp) ?_);have t':(s.heap.update it (Obj.mapFields (·.setIfInBounds 1 (rawInt ((i:Int)+1))))).IsKeyIter it d (i+1) ds.size ep:=
  ⟨_,aci _ i1 (ady (aca i3 _)),(aeB ..).trans i2,by rw[aca i3];rfl⟩
 refine aab (abx (aab ?_));refine wpAny_isOneOf_keyiter t'.typeIs ?_;exact aah (aah ⟨_,rfl,aah (q _ t' (abF ..))⟩)
theorem V0 {Q:Option aao->aaE->Prop}(hh:A.handled=none)(t:s.heap.IsKeyIter it d i ds.size ep)(x:mq s.heap d ds ep)(hi:ds.size<=i)
  (q:∀h',afg it s.heap h'->Q none {s with heap:=h'}):aaT (aaX prog w) A (pyNext (.ref it)) Q E s:=by
 have ty:=t.typeIs;obtain⟨oi,i1,i2,i3⟩:=t;obtain⟨od,e1,e2,e3⟩:=x;refine aab (acN (aa7 ty acx (aa4 acx ty aeZ ?_ (aeQ _))));refine aab (aah (aab (aab ?_)))
 first|refine aab (acu ty (aah ?_))|refine aab _
 refine aab (adT i1 i3 ?_);refine aab (aah (aab (acY e1 e3 ?_)));rw[hV (by simp)];refine aab (aah (aab (adA e1 e3 ?_)));rw[hV (by simp)];refine aah ?_;simp only[abt,acE hi];refine aab ?_
 first|refine aab (acu ty (aah ?_))|refine aab _
 change aaT _ _ (setField _ 0 _ >>= _) _ _ s;refine aab (acP i1 i3 (by simp) ?_);refine aab ?_;refine aab (m:=afG _ _) (adx (by rfl) (abc ?_));refine aab (wpAny_handled ?_);rw[hh];refine aab (aah (wpAny_throw ?_));refine aab (ac7 ⟨_,aas _ rfl,rfl⟩ afH ?_);exact aah (q _ (((abF ..).extBut.push _).push _))
theorem V1 (lo:(d==acf)=false)(x:mq s.heap d ds ep)(q:∀h',h'.IsItemsView s.heap.objs.size d->(∀b o,s.heap.get? b=some o->h'.get? b=some o)->Q (.ref s.heap.objs.size) {s with heap:=h'}) :
  aaT (aaX prog w) A (Builtin.«dict.items» ⟨[.ref d],[]⟩) (λf s'=>∃v,f=.done (.ret v)/\Q v s') E s:=by
 refine aab ?_;refine aab (wpAny_notOrdered_dict x.ty ?_);refine aah ?_;unfold aeP;rw[hV (by rw[lo];exact aaB)];exact aab (aah (aab (abc (aah ⟨_,rfl,q _ ⟨_,aas _ rfl,rfl,rfl⟩ λb o e=>aak _ e⟩))))
theorem V2 (hv:s.heap.IsItemsView vw d)(x:mq s.heap d ds ep)(q:∀h',afa h' s.heap.objs.size d 0 ds.size ep .none .none->(∀b o,s.heap.get? b=some o->h'.get? b=some o)->Q (.ref s.heap.objs.size) {s with heap:=h'}):aaT (aaX prog w) A (pyIter (.ref vw)) Q E s:=by
 have ty:=hv.typeIs;obtain⟨ov,v1,v2,v3⟩:=hv;obtain⟨od,e1,e2,e3⟩:=x;refine adJ ty F.slot_dict_items_iter (aa4 F.slot_dict_items_iter ty F.entry_dict_items_iter ?_ (F.args_dict_items_iter_1 _));refine aab (aah (aab ?_));refine aab (abD v1 v3 rfl (aah (aab ?_)));refine aab (acY e1 e3 (aab (adA e1 e3 ?_)));simp only[show Builtin.Dict_items.ownsTuple "dict_itemiterator"=true by decide,if_true];refine abc (aah ⟨_,rfl,"dict_itemiterator",_,⟨_,aas _ rfl,rfl⟩,F.slot_dict_itemiterator_next.lookup,?_⟩)
  (by simp only[sizeOk,ad2,aaz,aay,aaw,abH,acq];lia)
 exact q _ (by
  have:=aas s.heap (o:={cls:=.type "dict_itemiterator",data:=.fields #[.none,.bool false,.ref d,.int 0 0,.int ds.size 0,.int ep 0,.none,.none]}) rfl;assumption) λb o e=>aak _ e
theorem V3 {ok ov:aao}{Q:Option aao->aaE->Prop}(t:afa s.heap it d i ds.size ep ok ov)(x:mq s.heap d ds ep)(hi:i<ds.size)
  (q:∀h',IsItemIterOut h' it d (i+1) ds.size ep ds[i].key ds[i].val s.heap.objs.size->h'.get? s.heap.objs.size=some {cls:=.type "tuple",data:=.seq #[ds[i].key,ds[i].val]} ->
   (∀b o,b≠it->s.heap.get? b=some o->h'.get? b=some o)->Q (some (.ref s.heap.objs.size)) {s with heap:=h'}):aaT (aaX prog w) A (pyNext (.ref it)) Q E s:=by
 obtain⟨hp,g,dr,tk,os⟩:=s;have ty:Shared.TypeIs _ (.ref it) _:=⟨_,t,rfl⟩;obtain⟨od,e1,e2,e3⟩:=x;refine aab (acN (aa7 ty acv (aa4 acv ty aeR ?_ (aeC _))));refine aab (aah (aab (aab ?_)))
 first|refine aab (acn ty (aah ?_))|refine aab _
 refine aab (adT t rfl ?_);refine aab (aah (aab (acY e1 e3 ?_)));rw[hV (by simp)];refine aab (aah (aab (adA e1 e3 ?_)));rw[hV (by simp)];refine aah ?_;simp only[abt,aaR hi];refine aab ?_
 first|refine aab (acn ty (aah ?_))|refine aab _
 refine aab (aes ty ?_);change aaT _ _ (setField _ 3 _ >>= _) _ _ _;refine aab (abL t (by simp) λg1 t1 b1=>?_);have í:Shared.TypeIs ⟨g1,g,dr,tk,os⟩ (.ref it) _:=⟨_,t1,rfl⟩;refine aab (abx (aab (aes í (aab (aes í ?_)))));refine aab (wpAny_newTuple ?_);have t2:afa (g1.push {cls:=.type "tuple",data:=.seq #[ds[i].key,ds[i].val]}) it d _ _ ep ok ov:=aak _ t1;have n1:=b1.1;have lt:=aaF t;have u2:(g1.push {cls:=.type "tuple",data:=.seq #[ds[i].key,ds[i].val]}).get? hp.objs.size=some {cls:=.type "tuple",data:=.seq #[ds[i].key,ds[i].val]}:=by rw[←n1];exact aas _ rfl
 have k2:∀b o,b≠it->hp.get? b=some o->(g1.push {cls:=.type "tuple",data:=.seq #[ds[i].key,ds[i].val]}).get? b=some o:=λb o hb e=>aak _ (b1.extBut b o hb e);rw[n1];generalize g1.push _=g2 at t2 u2 k2 ⊢;refine aab ?_;refine aab (abD t2 rfl rfl (aah ?_));refine aab (abD t2 rfl rfl (aab (abD t2 rfl rfl ?_)));refine aab (abL t2 (by simp) λg3 t3 b3=>?_);refine aab (abL t3 (by simp[*]) λg4 t4 b4=>?_);refine aab (abL t4 (by simp[*]) λg5 t5 b5=>?_);refine aab (abL t5 (by simp[*]) λg6 t6 b6=>?_);have up:=λb o hb e=>b6.extBut b o hb (b5.extBut b o hb (b4.extBut b o hb (b3.extBut b o hb e)));exact aab (wpAny_letGo (aah (aah ⟨_,rfl,aah (q g6 t6 (up _ _ (acZ lt) u2) λb o hb e=>up b o hb (k2 b o hb e))⟩)))
theorem V4 {ok ov:aao}{Q:Option aao->aaE->Prop}(hh:A.handled=none)(t:afa s.heap it d i ds.size ep ok ov)(x:mq s.heap d ds ep)(hi:ds.size<=i)
  (q:∀h',afg it s.heap h'->Q none {s with heap:=h'}):aaT (aaX prog w) A (pyNext (.ref it)) Q E s:=by
 have ty:s.TypeIs (.ref it) _:=⟨_,t,rfl⟩;obtain⟨od,e1,e2,e3⟩:=x;refine aab (acN (aa7 ty acv (aa4 acv ty aeR ?_ (aeC _))));refine aab (aah (aab (aab ?_)))
 first|refine aab (acn ty (aah ?_))|refine aab _
 refine aab (adT t rfl ?_);refine aab (aah (aab (acY e1 e3 ?_)));rw[hV (by simp)];refine aab (aah (aab (adA e1 e3 ?_)));rw[hV (by simp)];refine aah ?_;simp only[abt,acE hi];refine aab ?_
 first|refine aab (acn ty (aah ?_))|refine aab _
 change aaT _ _ (setField _ 2 _ >>= _) _ _ s;refine aab (acP t rfl (by simp) ?_);refine aab ?_;refine aab (m:=afG _ _) (adx (by rfl) (abc ?_));refine aab (wpAny_handled ?_);rw[hh];refine aab (aah (wpAny_throw ?_));refine aab (ac7 ⟨_,aas _ rfl,rfl⟩ afH ?_);exact aah (q _ (((abF ..).extBut.push _).push _))
end
end Hc.Dw
namespace L2
open Hc.Dw
theorem vo {α β:Type}{R:α->β->Prop}:∀{xs:List α} {ys:List β} {i:Nat} {y:β},afJ R xs ys->ys[i]? = some y->∃x,xs[i]? = some x/\R x y
 |_,_,_,_,.nil,h=>by simp at h
 |x::xs,y'::ys,0,y,.cons r t,h=>by simp at h;subst h;exact⟨x,by simp,r⟩
 |x::xs,y'::ys,i+1,y,.cons r t,h=>by
  obtain⟨x',m,q⟩:=vo t (by simpa using h);exact⟨x',by simpa using m,q⟩
theorem aG.rawD (I:aG X ċ σ H s)(q:H a=some (DN a ep es)):(a==acf)=false/\∃ds,mq s.heap a ds ep/\ds.size=es.length/\∀(i:Nat) (hi:i<ds.size),∃e,es[i]? = some e/\ds[i].key=.ref e.2.1/\aZ e.2.2 ds[i].val:=by
 obtain⟨⟨l,o,ds,xs,h1,h2,h3,h4,h5⟩,_⟩:=I.hok a _ q;have n1:ds.size=es.length:=by rw[←aaY,h5,aaa,aea h4]
 refine⟨l,ds,⟨o,h1,h2,h3⟩,n1,λi hi=>?_⟩;have e1:ds.toList[i]? = some ds[i]:=by simp
 rw[h5,aar] at e1;cases e2:xs[i]? with
 |none=>rw[e2] at e1;cases e1
 |some x=>
  rw[e2] at e1;have e3:=by injection e1
  obtain⟨e,m,r⟩:=vo h4 e2;refine⟨e,m,?_,?_⟩
  ·rw[←e3,r.2.1];rfl
  ·rw[←e3];exact r.2.2
def ItK (a:aaL)(ep:Nat)(es:List (List U×aaL×V)):It:=
 ⟨λi H=>H a=some (DN a ep es)/\i<es.length,λi H v H'=>H'=H/\∃e,es[i]? = some e/\v=.ref e.2.1,λi H=>H a=some (DN a ep es)/\es.length<=i⟩
def ItV (a:aaL)(ep:Nat)(es:List (List U×aaL×V)):It:=
 ⟨λi H=>H a=some (DN a ep es)/\i<es.length,λi H v H'=>H'=H/\∃e,es[i]? = some e/\v=e.2.2,λi H=>H a=some (DN a ep es)/\es.length<=i⟩
def Yz (a:aaL)(ep:Nat)(es:List (List U×aaL×V)):It:=
 ⟨λi H=>H a=some (DN a ep es)/\i<es.length,λi H v H'=>∃T e,v=.ref T/\H T=none/\es[i]? = some e/\H'=dz H T (.tup [.ref e.2.1,e.2.2]),λi H=>H a=some (DN a ep es)/\es.length<=i⟩
theorem vp:entryFor table "dict_itemiterator.__iter__"=some Builtin.«dict_keyiterator.__iter__» :=
 entryFor_alias (id':="dict_keyiterator.__iter__") (by kernel_rfl) rfl (by decide+kernel) (by kernel_rfl)
theorem Dy {A:abd}{ok ov:aao}(st:afa s.heap it a i n ep ok ov)(h:Q (.ref it) s):aaT (aaX P w) A (pyIter (.ref it)) Q E s:=by
 have ty:s.TypeIs (.ref it) _:=⟨_,st,rfl⟩;refine adJ ty ae0 (aa4 ae0 ty vp ?_ (F.args_dict_itemiterator_iter_1 _));exact aah ⟨_,rfl,"dict_itemiterator",_,ty,F.slot_dict_itemiterator_next.lookup,h⟩
theorem Dz:CG P w K (.Tuple Τ kt tp) (Yz a ep es) [it] it (λi h=>∃ok ov,afa h it a i es.length ep ok ov) where
 mem:=by simp
 obj:=λi h st b hb=>by
  grind
 keep:=λi h h' ⟨ok,ov,q⟩ k=>⟨ok,ov,k it (by simp) _ q⟩
 item:=by
  intro X hP hw hK hc i ċ s σ H E I hf st hg;obtain⟨hq,hi⟩:=hg;obtain⟨_,ds,rd,n,at_⟩:=I.rawD hq;obtain⟨ok,ov,st⟩:=st;rw[←n] at st hi;obtain⟨e,m,ek,rv⟩:=at_ i hi;have lt:=aaF st;refine V3 st rd hi λh' cN tu kp=>⟨_,rfl,?_⟩;refine wpAny_letOwnedTupleGo_items cN λh2 qm sb=>?_;have è:=sb.extBut _ _ (acZ lt) tu;have I2:aG X ċ σ (dz H _ (.tup [.ref e.2.1,e.2.2])) _:=I.turnNew (t':=s.toks) hf (λb o hb q=>by
   have hb:=by simpa using hb
   exact sb.extBut _ _ hb (kp b o hb q)) (aaq _) ⟨by rw[acq];simp,[ds[i].key,ds[i].val],.cons ek (.cons rv .nil),⟨_,è,rfl,_,rfl⟩,_,è⟩
  refine⟨.ref _,_,I2,rfl,⟨_,e,rfl,I.hok.fresh (aaq _),m,rfl⟩,⟨_,_,by rw[←n];exact qm⟩,λb hb=>?_⟩;have Aq:=by simpa using hb
  rw[bB (by rw[Aq];exact aaW lt)];exact (hf b hb).1
 done:=by
  intro X hP hw hK hc i ċ s σ H E I hf st hg;obtain⟨hq,hi⟩:=hg;obtain⟨_,ds,rd,n,at_⟩:=I.rawD hq;obtain⟨f0,f1,f2,f3,f4,f5⟩:=hf it (by simp);obtain⟨ok,ov,st⟩:=st;rw[←n] at st hi;exact V4 (I.ok.hd hc) st rd hi λh' eb=>⟨rfl,I.turned (λb o hb e=>eb b o hb e) f0 f1 f3 f4 f5⟩
 self:=λ_ _ _ _ _ ⟨ok,ov,st⟩ h=>Dy st h
def ZR (J:aaL->Nat->List (List U×aaL×V)->It)(tl:TE):TI:=λσ H R=>tl σ H λx H1=>∃a ep es,x=.ref a/\H1 a=some (DN a ep es)/\R (J a ep es) H1
structure M0 (X:Cx)(o:ab6)(m:Str)(fA μ:Pos):Prop where
 base:adH o m X.env (adM o X.env)=adM o X.env
 few:((acy μ (aaN [] X.env)).all (λx=> !x.1)&&(backToKw μ (aey [] X.env)).all (λx=>x.1.isSome)
  && decide (([]:List ab6).length+([]:List aed).length+(if ([]:List aed).isEmpty then 0 else 1)<30))=true
 line:(fA.endLine==μ.line)=true
 trees:acy μ (aaN [] X.env)=[]
section
variable {e:ab6}{tl:TE}{fA μ:Pos}
theorem SJ (I:aG X ċ σ H s)(q:H a=some (DN a ep es)):s.TypeIs (.ref a) "dict"/\∀b,Value.ref a=.ref b->∃ob,s.heap.get? b=some ob/\ob.dict=none:=by
 obtain⟨_,ds,rd,_⟩:=I.rawD q;refine⟨rd.ty,λb z=>?_⟩;cases z;obtain⟨o,h1,h2,_⟩:=rd;exact⟨o,h1,h2.2.1⟩
theorem KG (hl:PE X e tl)(m:M0 X e "items" fA μ):PI X (.Tuple Τ kt tp) (.Call (.Attribute e "items" fA) [] [] μ) (ZR Yz tl):=by
 intro ċ s σ H R I h;refine wpAny_Call_method m.base m.few m.line PySem.F.plainAttrs_dict PySem.F.slot_dict_items PySem.F.type_dict_items (fg (hl ċ s σ H _ I h) λv s1 ⟨x,H1,I1,r1,a,ep,es,ex,hq,q⟩=>?_);subst ex;cases r1;obtain⟨t1,t2⟩:=SJ I1 hq;refine⟨t1,t2,?_⟩;obtain⟨lo,ds,rd,n,_⟩:=I1.rawD hq;refine aeo rfl (PyProof.Rows.evalArgs_none ?_);refine aa4 PySem.F.slot_dict_items t1 PySem.F.entry_dict_items (V1 lo rd λh1 vw k1=>?_) (PySem.F.args_dict_items_1 _);refine V2 vw (rd.at λo z=>k1 _ o z) λh2 st k2=>?_;have I2:=I1.kept (t':=s1.toks) λb o z=>k2 b o (k1 b o z);refine⟨h1.objs.size,[h1.objs.size],_,_,H1,rfl,I2,Dz,⟨_,_,by rw[←n];exact st⟩,λb hb=>?_,q⟩;have e:=by simpa using hb
 have ge:s1.heap.objs.size<=h1.objs.size:=by
  obtain⟨o,z,_⟩:=vw;exact aeJ (aaF z)
 exact I1.fpOk (by rw[e];exact ge) (I1.hok.fresh (by rw[e];exact ge))
end
end L2
namespace L2
open Hc.Dw
mutual
theorem V5 {K:aam}{H:Hp}{A:aaL->Prop}:∀{u:U} {v:V},KH H u v->Rp K H A u v
 | .int i,v,h=>by unfold KH at h;unfold Rp;exact h
 | .tup us,v,h=>by
  unfold KH at h;unfold Rp;obtain⟨b,ys,e,q,l,z⟩:=h;exact⟨b,ys,e,q,l,DB z⟩
 | .non,v,h=>by unfold KH at h;exact h.elim
 | .bl _,v,h=>by unfold KH at h;exact h.elim
 | .str _,v,h=>by unfold KH at h;exact h.elim
 | .lst _,v,h=>by unfold KH at h;exact h.elim
 | .dct _ _,v,h=>by unfold KH at h;exact h.elim
 | .scr _,v,h=>by unfold KH at h;exact h.elim
 | .obj _ _,v,h=>by unfold KH at h;exact h.elim
theorem DB {K:aam}{H:Hp}{A:aaL->Prop}:∀{us:List U} {vs:List V},uB H us vs->aU K H A us vs
 | [],vs,h=>by unfold uB at h;unfold aU;exact h
 |u::us,vs,h=>by
  unfold uB at h;unfold aU;obtain⟨x,r,q,p,z⟩:=h;exact⟨x,r,q,V5 p,DB z⟩
end
theorem KI (h:wO H us b):Rp K H A (.tup us) (.ref b):=by
 obtain⟨_,ys,q,l,z⟩:=h;exact⟨b,ys,rfl,q,l,DB z⟩
def SK:U->Bool
 | .tup _=>true
 |_=>false
def DC (ks:List U):Bool:= !ks.isEmpty&&ks.all SK
theorem DH (w:DC ks=true)(d:yK H a ks xs):∃es ep,H a=some (DN a ep es)/\(∀e∈es,wO H e.1 e.2.1)/\ks=es.map (λp=>.tup p.1)/\xs=es.map (·.2.2):=by
 unfold DC at w;rw[aaC] at w;rcases d with⟨bw,h,rfl,rfl⟩|⟨es,n,h,e1,e2⟩
 ·exfalso;cases bw with
  |nil=>grind
  |cons p r=>
   have:=w.2;rw[aal,ac3,aaC] at this;obtain⟨p1,p2⟩:=p;cases p1<;>cases this.1
 ·obtain⟨ep,q⟩:=h.ne n;exact⟨es,ep,q,h.key,e1,e2⟩
theorem V6 (mu:∀a,A a->Mu (H1 a))(w:DC ks=true)(h:Rp K H1 A (.dct ks us) v):∃a ep es,v=.ref a/\H1 a=some (DN a ep es)/\
  Wk K false A ks (ItK a ep es) H1/\Wk K false A us (ItV a ep es) H1/\Wk K false A (ack (λk u=>.tup [k,u]) ks us) (Yz a ep es) H1:=by
 obtain⟨a,xs,rfl,na,d,l,z⟩:=h;obtain⟨es,ep,q,kt,e1,e2⟩:=DH w d;subst e1 e2;have le:es.length=us.length:=by rw[z.length,aaa]
 have key:∀(i:Nat) (e:List U×aaL×V),es[i]? = some e->Rp K H1 A _ _:=λi e he=>KI (kt e (abq he));have val:∀(i:Nat) (u:U),us[i]? = some u->∃e:List U×aaL×V,es[i]? = some e/\Rp K H1 A u e.2.2:=λi u hu=>by
  obtain⟨x,h1,h2⟩:=z.get hu;rw[aar] at h1;cases he:es[i]? with
  |none=>rw[he] at h1;cases h1
  |some e=>rw[he] at h1;cases h1;exact⟨e,rfl,h2⟩
 refine⟨a,ep,es,rfl,q,⟨?_,λH A' hx ha=>?_⟩,⟨l,λH A' hx ha=>?_⟩,⟨?_,λH A' hx ha=>?_⟩⟩
 ·rw[aaa,le];exact l
 ·have qa:=hx a _ na q;refine⟨λi u hu=>?_,⟨qa,by simp⟩⟩;rw[aar] at hu;cases he:es[i]? with
  |none=>rw[he] at hu;cases hu
  |some e=>
   rw[he] at hu;cases hu;refine⟨⟨qa,(aap.mp he).1⟩,λx H' y=>?_⟩;obtain⟨rfl,e',Il,rfl⟩:=y;rw[he] at Il;cases Il;exact⟨aO.refl _,(key i e he).re mu hx ha⟩
 ·have qa:=hx a _ na q;refine⟨λi u hu=>?_,⟨qa,by rw[le];exact aaq _⟩⟩;obtain⟨e,he,r⟩:=val i u hu;refine⟨⟨qa,(aap.mp he).1⟩,λx H' y=>?_⟩;obtain⟨rfl,e',Il,rfl⟩:=y;rw[he] at Il;cases Il;exact⟨aO.refl _,r.re mu hx ha⟩
 ·rw[ad1];exact abl (Nat.min_le_right _ _) l
 ·have qa:=hx a _ na q;refine⟨λi u hu=>?_,⟨qa,by rw[ad1,aaa,le,aeL];exact aaq _⟩⟩;rw[List.getElem?_zipWith,aar] at hu;cases hU:us[i]? with
  |none=>rw[hU] at hu;cases h:es[i]? <;> rw[h] at hu<;>cases hu
  |some u0=>
   obtain⟨e,he,r⟩:=val i u0 hU;rw[hU,he] at hu;cases hu;refine⟨⟨qa,(aap.mp he).1⟩,λx H' y=>?_⟩;obtain⟨T,e',rfl,hT,Il,rfl⟩:=y;rw[he] at Il;cases Il;have sm:=cD hT (.tup [.ref e.2.1,e.2.2]);refine⟨sm,?_⟩;exact⟨T,_,rfl,bD,by have:aaf=16777216:=rfl;rw[this];simp,aU.cons (((key i e he).re mu hx ha).same sm) (aU.cons ((r.re mu hx ha).same sm) aU.nil)⟩
def V7 (g:Ev->R (U×Ev)):Ev->R (List U×Ev):=λρ=>(g ρ).bind λx=>match x.1 with
 | .dct ks us=>if DC ks=true then .ok (ack (λk u=>.tup [k,u]) ks us,x.2) else .stk
 |_=>.stk
section
variable {e:ab6}{fA μ:Pos}{b1:Bool}{m1:Md}{g1:Ev->R (U×Ev)}
theorem Hz {f:List U->List U->List U}{J:aaL->Nat->List (List U×aaL×V)->It}(n1:m1≠.P)(hw:∀{K:aam} {A:aaL->Prop} {H1:Hp} {ks us:List U} {v:V},(∀a,A a->Mu (H1 a))->DC ks=true->Rp K H1 A (.dct ks us) v->∃a ep es,v=.ref a/\H1 a=some (DN a ep es)/\Wk K false A (f ks us) (J a ep es) H1){R:It->Hp->Prop}(h:Xu X.K G b1 false (λρ=>(g1 ρ).bind λx=>match x.1 with
   | .dct ks us=>if DC ks=true then .ok (f ks us,x.2) else .stk
   |_=>.stk) σ H R):ZR J (tD X.K G b1 m1 g1) σ H R:=by
 obtain⟨Z,A,ρ,q,h⟩:=h;dsimp only at h;refine⟨Z,A,ρ,q,?_⟩;cases e1:g1 ρ with
 |stk=>rw[e1] at h;exact h.elim
 |exc=>rw[e1] at h;exact h.elim
 |ok y=>
  obtain⟨u,η⟩:=y;rw[e1] at h;intro v H1 q1 x1 s1 vm;cases u with
  |dct ks us=>
   dsimp only[L2.R.bind] at h;split at h
   ·rename_i ą ε e2;split at e2
    ·rename_i c;cases e2;obtain⟨a,ep,es,ev,hq,wk⟩:=hw q1.mu c (vm.rp n1);exact⟨a,ep,es,ev,hq,h _ H1 q1 x1 s1 wk⟩
    ·cases e2
   lia
  |_=>exact h.elim
theorem vq (h:DE X G e b1 m1 g1)(n1:m1≠.P:=by decide)(m:M0 X e "items" fA μ:=by exact⟨rfl,rfl,rfl,rfl⟩):DI X G (.Tuple Τ kt tp) (.Call (.Attribute e "items" fA) [] [] μ) b1 false (V7 g1):=⟨(KG h.un m).to λσ H R z=>Hz n1 (λmu w r=>by
 obtain⟨a,ep,es,h1,h2,_,_,h3⟩:=V6 mu w r;exact⟨a,ep,es,h1,h2,h3⟩) z⟩
end
end L2
namespace L2
def Gm.un (G:Gm)(i:Nat):Gm:=⟨G.own.set i false,G.io,G.W⟩
theorem lC:(G.un i).is i=false:=by
 unfold Gm.un Gm.is;rw[aag,List.getElem?_set];split
 ·split<;>rfl
 ·rename_i h;exact absurd rfl h
theorem mw (h:i≠j):(G.un i).is j=G.is j:=by
 unfold Gm.un Gm.is;rw[aag,aag,aaV h]
section
variable {A':aaL->Prop}{ε:Ev}
theorem dh.un (r:dh K G Z A ρ σ H)(hi:G.io=true->i≠0):∃A',dh K (G.un i) Z A' ρ σ H:=by
 have io0:∀h ,σ[0]? = some _/\(G.un i).is 0=true:=λh=>by
  obtain⟨a,b⟩:=r.io0 h;exact⟨a,by rw[mw (hi h)];exact b⟩
 by_cases c:G.is i=true/\∃u,ρ[i]? = some (some u)
 ·obtain⟨c,u,hu⟩:=c;obtain⟨a,h1,h2,h3,h4,h5⟩:=r.own c hu;have na:¬Z.A0 a:=by
   lia
  have sub:∀b,(A b/\b≠a)->A b:=λb z=>z.1;refine⟨λb=>A b/\b≠a,?_⟩;exact {
   slot:=λj w hj=>by
    obtain⟨v,s1,s2⟩:=r.slot j w hj;refine⟨v,s1,?_⟩;by_cases e:i=j
    ·subst e;rw[hu] at hj;cases hj;rw[h1] at s1;cases s1;rw[hV (by rw[lC];exact aaB)];exact h5.rp sub λz=>z.2 rfl
    ·rw[mw e];by_cases cj:G.is j=true
     ·rw[hZ cj] at s2 ⊢;obtain⟨b,e1,e2,e3,e4,e5⟩:=s2;refine⟨b,e1,⟨e2,λz=>?_⟩,e3,e4,e5.mono sub⟩;subst z e1;exact r.dis i j u w b c cj e hu hj h1 s1
     ·rw[hV cj] at s2 ⊢;exact s2.mono sub
   dis:=λj k w w' b cj ck ne hj hk sj sk=>by
    have e1:i≠j:=λz=>by grind[lC]
    have e2:i≠k:=λz=>by grind[lC]
    rw[mw e1] at cj;rw[mw e2] at ck;exact r.dis j k w w' b cj ck ne hj hk sj sk
   mu:=λb z=>r.mu b z.1
   sup:=λb z=>⟨r.sup b z,λe=>na (e▸z)⟩
   out:=λb z=>r.out b z.1
   bas:=r.bas
   io0:=io0
   len:=r.len}
 ·refine⟨A,?_⟩;exact {
   slot:=λj w hj=>by
    obtain⟨v,s1,s2⟩:=r.slot j w hj;refine⟨v,s1,?_⟩;by_cases e:i=j
    ·simp_all[hV,lC,aaB]
    ·rw[mw e];exact s2
   dis:=λj k w w' b cj ck ne hj hk sj sk=>by
    have e1:i≠j:=λz=>by grind[lC]
    have e2:i≠k:=λz=>by grind[lC]
    rw[mw e1] at cj;rw[mw e2] at ck;exact r.dis j k w w' b cj ck ne hj hk sj sk
   mu:=r.mu
   sup:=r.sup
   out:=r.out
   bas:=r.bas
   io0:=io0
   len:=r.len}
theorem dh.reun (r:dh K (G.un i) Z A ρ σ H):dh K G Z A (ρ.set i none) σ H where
 slot:=λj w hj=>by
  rcases dR hj with⟨rfl,e⟩|⟨ne,e⟩
  ·cases e
  ·obtain⟨v,s1,s2⟩:=r.slot j w e;rw[mw ne] at s2;exact⟨v,s1,s2⟩
 dis:=λj k w w' a cj ck ne hj hk sj sk=>by
  rcases dR hj with⟨rfl,e⟩|⟨n1,e1⟩
  ·cases e
  ·rcases dR hk with⟨rfl,e⟩|⟨n2,e2⟩
   ·cases e
   ·exact r.dis j k w w' a (by rw[mw n1];exact cj) (by rw[mw n2];exact ck) ne e1 e2 sj sk
 mu:=r.mu
 sup:=r.sup
 out:=r.out
 bas:=r.bas
 io0:=λh=>by
  obtain⟨a,b⟩:=r.io0 h;grind[lC,mw]
 len:=by rw[abu];exact r.len
end
noncomputable def vt (i:Nat)(g:Ev->SR):Ev->SR:=λρ=>match g ρ with
 | .nx ε=>.nx (ε.set i none)
 | .bk ε=>.bk (ε.set i none)
 | .ct ε=>.ct (ε.set i none)
 | .rt u ε=>.rt u (ε.set i none)
 |r=>r
section
variable {e:ab6}{W3:List adN}{m m1:Md}{g:Ev->SR}{g1:Ev->R (U×Ev)}{h1:Ev->R (Bool×Ev)}
theorem KJ (hi:G.io=true->i≠0){D:n9}(h:Ux X.K G m (vt i g) D σ H):Ux X.K (G.un i) m g D σ H:=by
 obtain⟨Z,A,ρ,q,f⟩:=h;obtain⟨A',q'⟩:=q.un hi;refine⟨Z,A',ρ,q',?_⟩;unfold vt at f;cases e:g ρ with
 |nx=>rw[e] at f;exact λA2 Ζ H2 q2=>f A2 Ζ H2 q2.reun
 |bk=>rw[e] at f;exact λA2 Ζ H2 q2=>f A2 Ζ H2 q2.reun
 |ct=>rw[e] at f;exact λA2 Ζ H2 q2=>f A2 Ζ H2 q2.reun
 |rt=>rw[e] at f;exact λA2 Ζ H2 v q2 vm=>f A2 Ζ H2 v q2.reun vm
 |exc=>rw[e] at f;exact f
 |stk=>rw[e] at f;exact f.elim
def pL (i:Nat)(h:C3 X (G.un i) m W3 g)(hi:G.io=true->i≠0:=by decide):C3 X G m W3 (vt i g):=⟨h.un.to λ_ _ _ z=>KJ hi z⟩
end
end L2
namespace Hc.Ts
section
variable {O:KeyOrd}(key:ad9->O.α)
def Ij (l:List ad9):Prop:=l.Pairwise λx y=>O.kle (key x) (key y)
structure MI (T o ra rb:List ad9):Prop where
 perm:(o++(ra++rb)).Perm T
 so:Ij key o
 sa:Ij key ra
 sb:Ij key rb
 oa:∀x∈o,∀y∈ra,O.kle (key x) (key y)
 ob:∀x∈o,∀y∈rb,O.kle (key x) (key y)
structure MH (T ra rb o:List ad9):Prop where
 perm:((ra++rb)++o).Perm T
 so:Ij key o
 sa:Ij key ra
 sb:Ij key rb
 oa:∀x∈ra,∀y∈o,O.kle (key x) (key y)
 ob:∀x∈rb,∀y∈o,O.kle (key x) (key y)
variable {key}
end
structure KL (M:Model)(A:abd)(E:aao->aaE->Prop)(s:aaE)(O:KeyOrd)(key:ad9->O.α)(bI:SortKind)(D:ad9->Prop):Prop where
 lt:∀(x y:ad9) (st:ab4) (Q:Option Bool->ab4->Prop),D x->D y->ad3 st=bI->Q (some (O.blt (key x) (key y))) st->wpS M A E s (lt' x y) Q st
end Hc.Ts
namespace Hc.Ts
noncomputable def KN (lo n m:Nat):StateT ab4 Sem AscSt:=forIn [n:m] ((none,n):AscSt) λ_ c=>do
 let some sm ←ltAt' (lo+c.2) (lo+c.2-1)|pure (.done (some none,c.2))
 if sm=true then pure (.done (none,c.2)) else pure (.yield (none,c.2+1))
def KO (lo n m:Nat):StateT ab4 Sem (Option Nat):=do
 ae8 lo (lo+n)
 let c ←KN lo n m
 match c.1 with
 |some r=>pure r
 |none=>pure (some c.2)
noncomputable def QK (lo:Nat)(c:DescSt):StateT ab4 Sem (ForInStep DescSt):=do
 let some sm ←ltAt' (lo+c.2.1) (lo+c.2.1-1)|pure (.done (some none,c.2.1,c.2.2))
 if sm=true then
  if c.2.2>0 then do
   ae8 (lo+c.2.1-(c.2.2+1)) (lo+c.2.1)
   pure (.yield (none,c.2.1+1,0))
  else pure (.yield (none,c.2.1+1,0))
 else do
  let some lg ←ltAt' (lo+c.2.1-1) (lo+c.2.1)|pure (.done (some none,c.2.1,c.2.2))
  if lg=true then pure (.done (none,c.2.1,c.2.2)) else pure (.yield (none,c.2.1+1,c.2.2+1))
def QL (lo n m:Nat):StateT ab4 Sem DescSt:=forIn [n:m] ((none,n,0):DescSt) λ_ c=>QK lo c
def KP (lo n m:Nat):StateT ab4 Sem (Option Nat):=do
 liftM (rule "list.sort.descending-run")
 let c ←QL lo (n+1) m
 match c.1 with
 |some r=>pure r
 |none=>
  if c.2.2>0 then do
   ae8 (lo+c.2.1-(c.2.2+1)) (lo+c.2.1)
   KO lo c.2.1 m
  else KO lo c.2.1 m
theorem Bk (lo m:Nat):countRun' lo m=(do
  let c ←KN lo 1 m
  match c.1 with
  |some r=>pure r
  |none=>
   if (c.2==m)=true then pure (some c.2)
   else if c.2>1 then do
    let some rs ←ltAt' lo (lo+c.2-1)|pure none
    if rs=true then pure (some c.2)
    else do
     ae8 lo (lo+c.2)
     KP lo c.2 m
   else KP lo c.2 m):=by kernel_rfl
section
variable {A:abd}{O:KeyOrd}{key:ad9->O.α}{bI:SortKind}{D:ad9->Prop}{lo:Nat}{a0:Array ad9}{υ:ab4}
def kx (key:ad9->O.α)(l:Array ad9)(i:Nat):O.α:=key ((l[i]?).getD (Value.none,Value.none))
theorem Bl {l m:Array ad9}(h:l[i]? = m[j]?):kx key l i=kx key m j:=by unfold kx;rw[h]
theorem DJ {l:Array ad9}(hm:lo+m<=l.size)(k:Nat):kx key (mirror l (lo+n) (lo+m) ((lo+m-(lo+n)) / 2)) (lo+k)=if n<=k/\k<m then kx key l (lo+(n+m-1-k)) else kx key l (lo+k):=by
 have e:=getElem?_mirror_all (i:=lo+n) hm (lo+k);by_cases c:n<=k/\k<m
 ·rw[hZ (by simp[*])] at e;rw[hZ c];grind[Bl]
 ·rw[hV (by simp[*])] at e;rw[hV c];exact Bl e
theorem iN {l:Array ad9}(hm:lo+m<=l.size)(he:∀k,n<=k->k<m->kx key l (lo+k)=kx key l (lo+m-1))(k:Nat):kx key (mirror l (lo+n) (lo+m) ((lo+m-(lo+n)) / 2)) (lo+k)=kx key l (lo+k):=by
 grind[DJ]
theorem KQ {l:Array ad9}(hp:lo+p<l.size)(hd:d<=p)(k:Nat):kx key (bubble l (lo+p) d) (lo+k)=if k=p-d then kx key l (lo+p) else if p-d<k/\k<=p then kx key l (lo+(k-1)) else kx key l (lo+k):=by
 have e:=getElem?_bubble hp d (by lia) (lo+k);by_cases c:k=p-d
 ·rw[hZ (by lia)] at e;rw[hZ c];exact Bl e
 ·rw[hV (by lia)] at e;rw[hV c];by_cases c2:p-d<k/\k<=p
  ·rw[hZ (by (simp;lia))] at e;rw[hZ c2];exact Bl (e.trans (by congr 1;lia))
  ·rw[hV (by (simp at *;lia))] at e;rw[hV c2];exact Bl e
def Ik (key:ad9->O.α)(lo:Nat)(l:Array ad9)(n:Nat):Prop:=∀i j,i<=j->j<n->O.kle (kx key l (lo+i)) (kx key l (lo+j))
def UA (key:ad9->O.α)(lo:Nat)(l:Array ad9)(n:Nat):Prop:=∀i j,i<=j->j<n->O.kle (kx key l (lo+j)) (kx key l (lo+i))
structure SB (lo:Nat)(a0:Array ad9)(υ st:ab4):Prop where
 perm:(abT st).Perm a0
 same:∀k,k<lo->(abT st)[k]? = a0[k]?
 rest:st=setArr υ (abT st)
theorem SB.size {st:ab4}(h:SB lo a0 υ st):(abT st).size=a0.size:=h.perm.size_eq
theorem SB.put {st:ab4}(h:SB lo a0 υ st){l:Array ad9}(hp:l.Perm (abT st))(hs:∀k,k<lo->l[k]? = (abT st)[k]?):SB lo a0 υ (setArr st l):=by
 refine⟨hp.trans h.perm,λk hk=>(hs k hk).trans (h.same k hk),?_⟩;have:=h.rest;lia
theorem SB.mir {st:ab4}(h:SB lo a0 υ st)(hm:lo+m<=a0.size):SB lo a0 υ (setArr st (mirror (abT st) (lo+n) (lo+m) ((lo+m-(lo+n)) / 2))):=by
 refine h.put (mirror_perm _ _ _ _) λk hk=>?_;rw[getElem?_mirror_all (by rw[h.size];exact hm),hV (by lia)]
theorem SB.bub {st:ab4}(h:SB lo a0 υ st)(hp:lo+p<a0.size)(hd:d<=p):SB lo a0 υ (setArr st (bubble (abT st) (lo+p) d)):=by
 refine h.put (bubble_perm _ _ _) λk hk=>?_;rw[getElem?_bubble (by rw[h.size];exact hp) d (by lia),hV (by lia),hV (by lia)]
theorem SB.kind {st:ab4}(h:SB lo a0 υ st)(kd:ad3 υ=bI):ad3 st=bI:=by rw[h.rest];exact kd
theorem vx (C:KL M A E s O key bI D){st:ab4}{Q:Option Bool->ab4->Prop}(kd:ad3 υ=bI)(hD:∀p∈a0.toList,D p)(hB:SB lo a0 υ st)(hi:i<a0.size)(hj:j<a0.size)(h:Q (some (O.blt (kx key (abT st) i) (kx key (abT st) j))) st):wpS M A E s (ltAt' i j) Q st:=by
 have fd:∀i,i<a0.size->∃p,(abT st)[i]? = some p/\D p/\kx key _ i=key p:=λi hi=>by
  have Ap:i<(abT st).size:=by rw[hB.size];exact hi
  refine⟨(abT st)[i],getElem?_pos _ i Ap,hD _ ((adK.mp hB.perm).mem_iff.mp (by simp)),?_⟩;unfold kx;rw[getElem?_pos _ i Ap];rfl
 obtain⟨p,e1,d1,k1⟩:=fd i hi;obtain⟨q,e2,d2,k2⟩:=fd j hj;rw[k1,k2] at h;rw[ltAt'_eq];refine abQ (wpS_get ?_);dsimp only;rw[elem'_eq,elem'_eq,e1,e2];exact C.lt p q st Q d1 d2 (hB.kind kd) h
theorem zg {st:ab4}{Q:Unit->ab4->Prop}(h:Q () (setArr st (mirror (abT st) i j ((j-i) / 2)))):wpS M A E s (ae8 i j) Q st:=by
 exact wpS_modify h
theorem Bm (C:KL M A E s O key bI D){st:ab4}{Q:AscSt->ab4->Prop}(kd:ad3 υ=bI)(hD:∀p∈a0.toList,D p)(hm:lo+m<=a0.size)(n1:1<=n)(nm:n<=m)(hB:SB lo a0 υ st)(ha:Ik key lo (abT st) n)(h:∀r,n<=r->r<=m->Ik key lo (abT st) r->(r=m\/O.klt (kx key (abT st) (lo+r)) (kx key (abT st) (lo+r-1)))->Q (none,r) st):wpS M A E s (KN lo n m) Q st:=by
 refine aeS (I:=λx c cN=>cN=st/\c=(none,x)/\Ik key lo _ x) ?go ?out ⟨rfl,rfl,ha⟩
 case out=>
  rintro c cN ⟨rfl,rfl,Ie⟩;have e:max n m=m:=by lia
  rw[e] at Ie ⊢;exact h m nm (aaq _) Ie (.inl rfl)
 case go=>
  rintro x c cN h1 h2 ⟨rfl,rfl,Ie⟩;refine abQ (vx C kd hD hB (by lia) (by lia) ?_);cases e:O.blt _ _ with
  |true=>
   exact acF (h x h1 (by lia) Ie (.inr e))
  |false=>
   refine acF ⟨rfl,rfl,λi j Ac hj=>?_⟩;by_cases c1:j<x
   ·exact Ie i j Ac c1
   ·have:j=x:=by lia
    subst this;by_cases c2:i=j
    ·grind[aco]
    ·have:=Ie i (j-1) (by lia) (by lia);rw[show lo+(j-1)=lo+j-1 by lia] at this;exact adY this e
theorem Bn (C:KL M A E s O key bI D){st:ab4}{Q:Option Nat->ab4->Prop}(kd:ad3 υ=bI)(hD:∀p∈a0.toList,D p)(hm:lo+m<=a0.size)(n1:1<=n)(nm:n<=m)(hB:SB lo a0 υ st)(hd:UA key lo (abT st) n)(h:∀r cN,SB lo a0 υ cN->1<=r->r<=m->Ik key lo (abT cN) r->Q (some r) cN):wpS M A E s (KO lo n m) Q st:=by
 refine abQ (zg ?_);have XO:=hB.mir (n:=0) (m:=n) (by lia);have hz:lo+n<=(abT st).size:=by rw[hB.size];lia
 refine abQ (Bm C kd hD hm n1 nm XO (λi j Ac hj=>?_) λr r1 r2 r3 _=>acF (h r _ XO (by lia) r2 r3));have e1:=DJ (key:=key) (n:=0) hz i;have e2:=DJ (key:=key) (n:=0) hz j;rw[Nat.add_zero,hZ (by lia)] at e1 e2;rw[e1,e2];exact hd _ _ (by (simp;lia)) (by grind)
theorem KR (C:KL M A E s O key bI D){st:ab4}{Q:DescSt->ab4->Prop}(kd:ad3 υ=bI)(hD:∀p∈a0.toList,D p)(hm:lo+m<=a0.size)(n1:1<=n)(nm:n<=m)(hB:SB lo a0 υ st)(hd:UA key lo (abT st) n)(h:∀r q cN,SB lo a0 υ cN->n<=r->r<=m->UA key lo (abT cN) r->q+1<=r->(∀i,r-(q+1)<=i->i<r->kx key (abT cN) (lo+i)=kx key (abT cN) (lo+r-1))->Q (none,r,q) cN):wpS M A E s (QL lo n m) Q st:=by
 refine aeS (I:=λx c cN=>∃q,c=(none,x,q)/\SB lo a0 υ cN/\UA key lo (abT cN) x/\q+1<=x/\∀i,x-(q+1)<=i->i<x->kx key (abT cN) (lo+i)=kx key (abT cN) (lo+x-1)) ?go ?out
  ⟨0,rfl,hB,hd,by lia,λi a1 a2=>by congr 1;lia⟩
 case out=>
  rintro c cN ⟨q,rfl,b1,b2,b3,b4⟩;have e:max n m=m:=by lia
  rw[e] at b2 b3 b4 ⊢;exact h m q cN b1 nm (aaq _) b2 b3 b4
 case go=>
  rintro x c cN h1 h2 ⟨q,rfl,b1,b2,b3,b4⟩;have hz:lo+x<=(abT cN).size:=by rw[b1.size];lia
  unfold QK;dsimp only;refine abQ (vx C kd hD b1 (by lia) (by lia) ?_);cases e:O.blt _ _ with
  |true=>
   have nx:∀l ,(∀k,kx key l (lo+k)=kx key (abT cN) (lo+k))->UA key lo l (x+1):=by
    intro l hl i j Ac hj;rw[hl,hl];by_cases c1:j<x
    ·exact b2 i j Ac c1
    ·have:j=x:=by lia
     subst this;by_cases c2:i=j
     ·grind[aco]
     ·have:=b2 i (j-1) (by lia) (by lia);rw[show lo+(j-1)=lo+j-1 by lia] at this;exact adY (aeD e) this
   by_cases c:q>0
   ·rw[hZ c];refine abQ (zg ?_);have e3:lo+x-(q+1)=lo+(x-(q+1)):=by lia
    rw[e3];refine acF ⟨0,rfl,b1.mir (by lia),nx _ (iN hz b4),by lia,λi a1 a2=>?_⟩;congr 1;lia
   ·rw[hV c];exact acF ⟨0,rfl,b1,nx _ (λ_=>rfl),by lia,λi a1 a2=>by congr 1;lia⟩
  |false=>
   refine abQ (vx C kd hD b1 (by lia) (by lia) ?_);cases e2:O.blt _ _ with
   |true=>
    exact acF (h x q cN b1 h1 (by lia) b2 b3 b4)
   |false=>
    have eq:=KeyOrd.kle_antisymm e2 e;refine acF ⟨q+1,rfl,b1,λi j Ac hj=>?_,by lia,λi a1 a2=>?_⟩
    ·by_cases c1:j<x
     ·exact b2 i j Ac c1
     ·have:j=x:=by lia
      subst this;by_cases c2:i=j
      ·grind[aco]
      ·rw[eq];have:=b2 i (j-1) (by lia) (by lia);rw[show lo+(j-1)=lo+j-1 by lia] at this;exact this
    grind
theorem Bo (C:KL M A E s O key bI D){st:ab4}{Q:Option Nat->ab4->Prop}(kd:ad3 υ=bI)(hD:∀p∈a0.toList,D p)(hm:lo+m<=a0.size)(nm:n+1<=m)(hB:SB lo a0 υ st)(hd:UA key lo (abT st) (n+1))(h:∀r cN,SB lo a0 υ cN->1<=r->r<=m->Ik key lo (abT cN) r->Q (some r) cN):wpS M A E s (KP lo n m) Q st:=by
 refine abQ (wpS_lift (ae9 ⟨rfl,?_⟩));refine abQ (KR C kd hD hm (by lia) nm hB hd λr q cN b1 r1 r2 b2 b3 b4=>?_);dsimp only;have hz:lo+r<=(abT cN).size:=by rw[b1.size];lia
 by_cases c:q>0
 ·rw[hZ c];refine abQ (zg ?_);have e3:lo+r-(q+1)=lo+(r-(q+1)):=by lia
  rw[e3];refine Bn C kd hD hm (by lia) r2 (b1.mir (by lia)) (λi j Ac hj=>?_) h;have e1:=iN hz b4 i;have e2:=iN hz b4 j;rw[e1,e2];exact b2 i j Ac hj
 ·rw[hV c];exact Bn C kd hD hm (by simp_all) r2 b1 b2 h
theorem Bp (C:KL M A E s O key bI D){st:ab4}{Q:Option Nat->ab4->Prop}(kd:ad3 υ=bI)(hD:∀p∈a0.toList,D p)(hm:lo+m<=a0.size)(m1:1<=m)(hB:SB lo a0 υ st)(h:∀r cN,SB lo a0 υ cN->1<=r->r<=m->Ik key lo (abT cN) r->Q (some r) cN):wpS M A E s (countRun' lo m) Q st:=by
 rw[Bk];refine abQ (Bm C kd hD hm (aaq 1) m1 hB (λi j Ac hj=>by rw[show i=j by lia];exact aco _) λn n1 n2 ha ho=>?_);by_cases c:n=m
 ·rw[hZ (by simpa using c)];exact acF (h n st hB n1 n2 ha)
 ·rw[hV (by simpa using c)];have hl:=ho.resolve_left c;by_cases c2:n>1
  ·rw[hZ c2];refine abQ (vx C kd hD hB (by lia) (by lia) ?_);cases e:O.blt _ _ with
   |true=>
    exact acF (h n st hB n1 n2 ha)
   |false=>
    have hz:lo+n<=(abT st).size:=by rw[hB.size];lia
    have al:∀k,0<=k->k<n->kx key (abT st) (lo+k)=kx key (abT st) (lo+n-1):=by
     intro k _ hk;have p1:=ha 0 k (by lia) hk;have p2:=ha k (n-1) (by lia) (by lia);rw[show lo+(n-1)=lo+n-1 by lia] at p2;exact KeyOrd.kle_antisymm p2 (adY (e) p1)
    refine abQ (zg ?_);have XO:=hB.mir (n:=0) (m:=n) (by lia);refine Bo C kd hD hm (by lia) XO (λi j Ac hj=>?_) h;have e1:=iN hz al i;have e2:=iN hz al j;rw[Nat.add_zero] at e1 e2;grind[aco,aeD]
  ·have:n=1:=by lia
   subst this;refine Bo C kd hD hm (by lia) hB (λi j Ac hj=>?_) h;grind[aco,aeD]
theorem DK (C:KL M A E s O key bI D){st:ab4}{ok:Nat}{Q:Bool->ab4->Prop}(kd:ad3 υ=bI)(hD:∀p∈a0.toList,D p)(hn:lo+n<=a0.size)(hok:ok<=n)(hB:SB lo a0 υ st)(ha:Ik key lo (abT st) ok)(h:∀cN,SB lo a0 υ cN->Ik key lo (abT cN) n->Q true cN):wpS M A E s (binarySort' lo n ok) Q st:=by
 rw[binarySort'_eq];refine abQ (wpS_mono (aeS (I:=λk c cN=>c=(none,())/\SB lo a0 υ cN/\Ik key lo (abT cN) (min k n))
  (Q:=λc cN=>c=(none,())/\SB lo a0 υ cN/\Ik key lo (abT cN) n) ?go ?out ?at0) ?end_)
 case end_=>
  rintro c cN ⟨rfl,b1,b2⟩;exact acF (h cN b1 b2)
 case at0=>
  refine⟨rfl,hB,λi j Ac hj=>?_⟩;by_cases c:ok=0
  ·grind[aco]
  ·exact ha i j Ac (by lia)
 case out=>
  lia
 case go=>
  rintro k c Cs Cv UJ ⟨rfl,b1,b2⟩;have e1:min k n=k:=by lia
  rw[e1] at b2;have hk:lo+k<a0.size:=by lia
  refine abQ (wpS_mono (aeS (I:=λx c qm=>qm=Cs/\∃l r,c=(none,l,r)/\l<=r/\r<=k/\r-l<=k-x/\
    (∀i,i<l->O.kle (kx key (abT Cs) (lo+i)) (kx key (abT Cs) (lo+k)))/\∀i,r<=i->i<k->O.klt (kx key (abT Cs) (lo+k)) (kx key (abT Cs) (lo+i)))
   (Q:=λc qm=>qm=Cs/\∃l,c=(none,l,l)/\l<=k/\(∀i,i<l->O.kle (kx key (abT Cs) (lo+i)) (kx key (abT Cs) (lo+k)))/\∀i,l<=i->i<k->O.klt (kx key (abT Cs) (lo+k)) (kx key (abT Cs) (lo+i))) ?go2 ?out2 ?ME) ?end2)
  case ME=>exact⟨rfl,0,k,rfl,by lia,by lia,by lia,λi hi=>by lia,λi a1 a2=>by lia⟩
  case out2=>
   rintro c qm ⟨rfl,l,r,rfl,q1,q2,q3,q4,q5⟩;have:l=r:=by lia
   subst this;exact⟨rfl,l,rfl,q2,q4,q5⟩
  case go2=>
   rintro x c qm _ hx ⟨rfl,l,r,rfl,q1,q2,q3,q4,q5⟩;dsimp only;by_cases c:l≥r
   ·rw[hZ c];have:l=r:=by lia
    subst this;exact acF ⟨rfl,l,rfl,q2,q4,q5⟩
   ·rw[hV c];refine abQ (vx C kd hD b1 hk (by lia) ?_);cases e:O.blt _ _ with
    |true=>
     exact acF ⟨rfl,l,(l+r) / 2,rfl,by lia,by lia,by lia,q4,λi a1 a2=>KeyOrd.klt_of_klt_of_kle e (b2 _ _ a1 a2)⟩
    |false=>
     exact acF ⟨rfl,(l+r) / 2+1,r,rfl,by lia,by lia,by lia,λi a1=>adY (b2 i _ (by lia) (by lia)) (e),q5⟩
  case end2=>
   rintro c qm ⟨rfl,l,rfl,q2,q4,q5⟩;dsimp only;rw[moveDown'_eq];have e2:lo+k-(lo+l)=k-l:=by lia
   refine abQ (wpS_modify (acF ⟨rfl,?_,?_⟩))
   ·exact b1.bub hk (by lia)
   ·have hz:lo+k<(abT qm).size:=by rw[b1.size];exact hk
    intro i j Ac hj;rw[e2,KQ hz (by lia),KQ hz (by lia),show k-(k-l)=l by lia]
    repeat' split
    all_goals first
     | (lia)
     |exact aco _
     |exact q4 _ (by lia)
     |exact aeD (q5 _ (by lia) (by lia))
     |exact b2 _ _ (by lia) (by lia)
end
end Hc.Ts
namespace Hc.Ts
noncomputable def KS (lo n:Nat):StateT ab4 Sem (ForInStep (Option Unit×Nat)):=do
 modify λst=>setPending st ((ac9 st).push (lo,n,0))
 pure (.yield (none,lo+n))
noncomputable def srC (pw:Nat)(_:Nat)(_:Option Unit×Unit):StateT ab4 Sem (ForInStep (Option Unit×Unit)):=do
 let st ←get
 let some (_,_,Β):=(if (ac9 st).size>1 then (ac9 st)[(ac9 st).size-2]? else none)|pure (.done (none,()))
 if Β<=pw then pure (.done (none,())) else do
  let r ←mergeAt' ((ac9 st).size-2)
  if (!r)=true then pure (.done (some (),())) else pure (.yield (none,()))
noncomputable def YA (pw:Nat)(st:ab4):ab4:=setPending st ((ac9 st).modify ((ac9 st).size-1) λx=>match x with|(p,n,_)=>(p,n,pw))
def V8 (size lo n pw:Nat):StateT ab4 Sem (ForInStep (Option Unit×Nat)):=do
 let c ←forIn [0:size] ((none,()):Option Unit×Unit) (srC pw)
 match c.1 with
 |some r=>pure (.done (some r,lo))
 |none=>do
  modify (YA pw)
  KS lo n
def YB (size lo n:Nat):StateT ab4 Sem (ForInStep (Option Unit×Nat)):=do
 let st ←get
 let some (p1,n1,_):=(ac9 st).back? | KS lo n
 V8 size lo n (power' size (2*p1+n1) (2*p1+n1+n1+n) size)
def ZS (size EH:Nat)(_:Nat)(c:Option Unit×Nat):StateT ab4 Sem (ForInStep (Option Unit×Nat)):=
 if c.2≥size then pure (.done (none,c.2)) else do
  let some n ←countRun' c.2 (size-c.2)|pure (.done (some (),c.2))
  if n<EH then do
   liftM (rule "list.sort.binary-insertion")
   let r ←binarySort' c.2 (min (size-c.2) EH) n
   if (!r)=true then pure (.done (some (),c.2)) else YB size c.2 (min (size-c.2) EH)
  else YB size c.2 n
noncomputable def srI (p:Array (Nat×Nat×Nat)):Nat:=
 if Option.any (λx=>decide (x<(p[p.size-2+1]?).elim 0 λx=>x.2.1)) (if p.size-2>0 then Option.map (λx=>x.2.1) p[p.size-2-1]? else none)=true then p.size-2-1 else p.size-2
def srF (_:Nat)(_:Option Unit×Unit):StateT ab4 Sem (ForInStep (Option Unit×Unit)):=do
 let st ←get
 if (ac9 st).size<=1 then pure (.done (none,())) else do
  let r ←mergeAt' (srI (ac9 st))
  if (!r)=true then pure (.done (some (),())) else pure (.yield (none,()))
theorem zh:sortRuns'=(do
  let st ←get
  let c ←forIn [0:(abT st).size] ((none,0):Option Unit×Nat) (ZS (abT st).size (minRun' (abT st).size (abT st).size 0))
  match c.1 with
  |some r=>pure r
  |none=>do
   let d ←forIn [0:(abT st).size] ((none,()):Option Unit×Unit) srF
   match d.1 with
   |some r=>pure r
   |none=>pure ()):=by kernel_rfl
section
variable {A:abd}{O:KeyOrd}{key:ad9->O.α}{bI:SortKind}{D:ad9->Prop}{a0:Array ad9}
theorem N_ {l:Array ad9}(h:Ik key 0 l l.size):Ij key l.toList:=by
 refine afF.mpr λi j hi hj Ac=>?_;have at_:∀k,(hk:k<l.toList.length)->kx key l (0+k)=key l.toList[k]:=λk hk=>by
  unfold kx;rw[abw,←aa0,aad hk];rfl
 have:=h i j (by exact Nat.le_of_lt ‹_›) (by rwa [aaY] at hj)
 rwa [at_ i hi,at_ j hj] at this
def V9 (key:ad9->O.α)(a0:Array ad9)(st:ab4):Prop:=failedOf st=none/\(abT st).toList.Perm a0.toList/\Ij key (abT st).toList/\(ac9 st).size<=1
theorem Bq (C:KL M A E s O key bI D)(hD:∀p∈a0.toList,D p){st:ab4}(hk:ad3 st=bI)(hf:failedOf st=none)(ha:abT st=a0)(hp:ac9 st=#[])(hz:a0.size<64)(h1:1<=a0.size){Q:Unit->ab4->Prop}
  (q:∀cN,failedOf cN=none->(abT cN).toList.Perm a0.toList->Ij key (abT cN).toList->Q () cN):wpS M A E s sortRuns' Q st:=by
 have hmr:minRun' a0.size a0.size 0=a0.size:=by
  obtain⟨f,hf⟩:∃f,a0.size=f+1:=⟨a0.size-1,by lia⟩;have:minRun' (f+1) a0.size 0=a0.size:=by rw[minRun'_succ,hZ hz];rfl
  lia
 rw[zh];refine abQ (wpS_get ?_);rw[ha,hmr];have push:∀cN,SB 0 a0 st cN->Ik key 0 (abT cN) a0.size->∀{Q:ForInStep _->ab4->Prop},(∀qm,V9 key a0 qm->Q (.yield (none,0+a0.size)) qm)->wpS M A E s (YB a0.size 0 a0.size) Q cN:=by
  intro cN b W_ Q h;have pe:ac9 cN=#[]:=by rw[b.rest];exact hp
  refine abQ (wpS_get ?_);rw[pe];refine abQ (wpS_modify (acF (h _ ⟨?_,?_,?_,?_⟩)))
  ·rw[b.rest];exact hf
  ·exact adK.mp b.perm
  ·rw[←b.size] at W_;exact N_ W_
  ·rw[pe];exact aaq 1
 have hD' :=hD;refine abQ (wpS_mono (aeS (I:=λx c cN=>c.1=none/\((x=0/\c.2=0/\cN=st)\/(c.2=a0.size/\V9 key a0 cN))) (Q:=λc cN=>c.1=none/\V9 key a0 cN) ?go ?out ⟨rfl,.inl ⟨rfl,rfl,rfl⟩⟩) ?post)
 case out=>
  lia
 case go=>
  rintro x ⟨c1,lo⟩ cN _ hx ⟨e,h⟩;unfold ZS;rcases h with⟨rfl,rfl,rfl⟩|⟨rfl,h⟩
  ·rw[hV (by lia)];have b0:SB 0 a0 cN cN:=⟨by rw[ha],λ_ _=>by rw[ha],rfl⟩;refine abQ (Bp C hk hD' (by lia) (by lia) b0 λn qm b1 n1 n2 W_=>?_);dsimp only;rw[Nat.sub_zero,aeL] at *;by_cases c3:n<a0.size
   ·rw[hZ c3];refine abQ (wpS_lift (ae9 ⟨rfl,?_⟩));refine abQ (DK C hk hD' (by lia) (by lia) b1 W_ λUl b2 Ze=>?_);exact push Ul b2 Ze λst4 o=>⟨rfl,.inr ⟨abw _,o⟩⟩
   ·rw[hV c3];obtain rfl:n=a0.size:=by lia
    exact push qm b1 W_ λst4 o=>⟨rfl,.inr ⟨abw _,o⟩⟩
  ·rw[hZ (aaq _)];exact acF ⟨rfl,h⟩
 case post=>
  rintro⟨c1,lo⟩ cN ⟨e,h⟩;subst e;refine abQ (wpS_mono (aeS (I:=λx c cN=>c=(none,())/\V9 key a0 cN) (Q:=λc cN=>c=(none,())/\V9 key a0 cN) ?_ ?_ ⟨rfl,h⟩) ?_)
  ·rintro x c qm _ hx ⟨rfl,h2⟩;refine abQ (wpS_get ?_);rw[hZ h2.2.2.2];exact acF ⟨rfl,h2⟩
  ·rintro c qm ⟨rfl,h2⟩;exact⟨rfl,h2⟩
  ·rintro c qm ⟨rfl,h2⟩;exact acF (q qm h2.1 h2.2.1 h2.2.2.1)
end
end Hc.Ts
namespace Hc.Ts
section
variable {A:abd}{O:KeyOrd}{key:ad9->O.α}{bI:SortKind}{D:ad9->Prop}
theorem yc {vs:List aao}{l:List ad9}(h:l.Perm (vs.zip vs)):(l.map (·.2)).Perm vs/\∀p∈l,p=(p.2,p.2):=by
 have e:(vs.zip vs).map (·.2)=vs:=by
  grind[afC,aal,List.map_snd_zip]
 refine⟨by grind,λp hp=>?_⟩;have hp:=h.mem_iff.mp hp;clear h e
 induction vs with
 |nil=>cases hp
 |cons v r ih=>
  (simp at *;lia)
theorem KW {vs:List aao}{P:Fin->aaE->Prop}(ho:s.heap.get? a=some (seqObj "list" vs.toArray n))(hz:vs.length<64)(hk:2<=vs.length->∀(h6:ac5) (Q:SortKind->aaE->Prop),(∀b o,b≠a->s.heap.get? b=some o->h6.get? b=some o)->Q bI {s with heap:=h6}->aaT (aaX prog w) A (keyKind' vs.toArray) Q E {s with heap:=h6})(hC:2<=vs.length->∀h6:ac5,(∀b o,b≠a->s.heap.get? b=some o->h6.get? b=some o)->KL (aaX prog w) A E {s with heap:=h6} O key bI D)(hD:∀v∈vs,D (v,v))(h:∀out:List aao,out.Perm vs->out.Pairwise (λx y=>O.kle (key (x,x)) (key (y,y)))->P (.done (.ret .none)) {s with heap:=sortedHeap s.heap a vs out.toArray}) :
  aaT (aaX prog w) A (Builtin.«list.sort» ⟨[.ref a],[]⟩) P E s:=by
 have Pw:vs.length<=aaf:=by rw[acq];lia
 rw[list_sort_plain];refine aab (listItems_at ho rfl (aab (listUpdate_at ho rfl ?_)));obtain⟨e1,o1⟩:∃e1,(s.heap.update a _).get? a=some (seqObj "list" #[] e1):=⟨_,get?_update_seq ho (λ_=>#[])⟩;refine aab (seqEpoch_at o1 rfl (aab (wpAny_newTuple (aab (wpAny_newList (abx ?_))) (by simpa using Pw))));have kp:∀b o,b≠a->s.heap.get? b=some o->(((s.heap.update a (Obj.mapSeq λ_=>#[])).push (seqObj "tuple" vs.toArray 0)).push (seqObj "list" #[] 0)).get? b=some o:=λb o hb e=>
  aak _ (aak _ ((Heap.get?_update_ne _ _ _ _ hb).trans e))
 have o6:(((s.heap.update a _).push (seqObj "tuple" vs.toArray 0)).push (seqObj "list" #[] 0)).get? a=some _:=aak _ (aak _ o1);have fin:∀cN ,failedOf cN=none->(abT cN).toList.Perm (pairsOf vs).toList->Ij key (abT cN).toList->aaT (aaX prog w) A (do
   let touched:=(←seqEpoch a) != e1
   Builtin.List.listUpdate (.ref a) λ_=>(abT cN).map (·.2)
   if let some e:=failedOf cN then rule "list.sort.comparison-raised";throw e
   if touched then rule "list.sort.modified";raiseError "ValueError" "list modified during sort"
   ret .none) P E {s with heap:=((s.heap.update a (Obj.mapSeq λ_=>#[])).push (seqObj "tuple" vs.toArray 0)).push (seqObj "list" #[] 0)}:=by
  intro cN f1 f2 f3;rw[aeI] at f2;obtain⟨m1,m2⟩:=yc f2;refine aab (seqEpoch_at o6 rfl (aab (listUpdate_at o6 rfl ?_ (hsz2:=by
   rw[Array.size_map,←aaY,f2.length_eq,adB];lia))))
  rw[f1];simp only[bne_self_eq_false,if_false];refine aah ?_;have e:(abT cN).map (·.2)=((abT cN).toList.map (·.2)).toArray:=by apply Array.ext';simp
  rw[e];refine h _ m1 (ach.mpr (acX (λ{x y} hx hy r=>?_) f3));rw[←m2 x hx,←m2 y hy];exact r
 by_cases h2:vs.length<2
 ·rw[hZ (by exact h2),hZ (by exact h2)];refine aab (aah ?_);refine fin _ rfl (abB _) ?_;change Ij key (pairsOf vs).toList;rw[aeI]
  match vs,h2 with
  | [],_=>exact List.Pairwise.nil
  | [v],_=>exact abE _ _
  |_::_::_,h2=>exact absurd h2 (by simp)
 ·rw[hV (by exact h2),hV (by exact h2)];refine aab (hk (by lia) _ _ kp ?_);refine aab (abr (Bq (hC (by lia) _ kp) (a0:=pairsOf vs) (λp hp=>?_) rfl rfl rfl rfl (by rw[←aaY,aeI,adB];lia) (by rw[←aaY,aeI,adB];lia)
   (Q:=λ_ cN=>failedOf cN=none/\(abT cN).toList.Perm _/\Ij key (abT cN).toList) λcN a1 a2 a3=>⟨a1,a2,a3⟩) ?_ λ_ _ e=>e)
  ·rw[aeI] at hp;obtain⟨m1,m2⟩:=yc (abB _);rw[m2 p hp];exact hD _ (m1.mem_iff.mp (abi hp))
  ·rintro⟨⟨⟩,cN⟩ s' ⟨rfl,f1,f2,f3⟩;exact fin cN f1 f2 f3
end
end Hc.Ts
namespace Hc.Ts
open PySem.W
noncomputable def jd:List Int->List Int->Bool
 | [],[]=>false
 | [],_::_=>true
 |_::_,[]=>false
 |x::xs,y::ys=>if x=y then jd xs ys else decide (x<y)
theorem sE:∀a,jd a a=false
 | []=>rfl
 |x::xs=>by unfold jd;rw[hZ rfl];exact sE xs
theorem vz:∀a b c,jd a b=true->jd b c=true->jd a c=true
 | [],[],_,h,_=>by cases h
 | [],_::_,[],_,h=>by cases h
 | [],_::_,_::_,_,_=>rfl
 |_::_,[],_,h,_=>by cases h
 |_::_,_::_,[],_,h=>by cases h
 |x::xs,y::ys,z::zs,h1,h2=>by
  unfold jd at h1 h2 ⊢;by_cases e1:x=y
  ·subst e1;rw[hZ rfl] at h1;by_cases e2:x=z
   ·subst e2;rw[hZ rfl] at h2 ⊢;exact vz xs ys zs h1 h2
   ·rw[hV e2] at h2 ⊢;exact h2
  lia
theorem Br:∀a b c,jd a c=true->jd a b=true\/jd b c=true
 | [],[],_::_,_=>.inr rfl
 | [],_::_,_::_,_=>.inl rfl
 | [],_,[],h=>by cases h
 |_::_,_,[],h=>by cases h
 |_::_,[],_::_,_=>.inr rfl
 |x::xs,y::ys,z::zs,h=>by
  unfold jd at h ⊢;by_cases e:x=z
  ·subst e;rw[hZ rfl] at h;by_cases e2:x=y
   ·subst e2;rw[hZ rfl,hZ rfl];exact Br xs ys zs h
   lia
  lia
theorem ou:∀a b,jd a b=false->jd b a=false->a=b
 | [],[],_,_=>rfl
 | [],_::_,h,_=>by cases h
 |_::_,[],_,h=>by cases h
 |x::xs,y::ys,h1,h2=>by
  unfold jd at h1 h2;by_cases e:x=y
  ·subst e;rw[hZ rfl] at h1 h2;rw[ou xs ys h1 h2]
  lia
def Oa:KeyOrd:=⟨List Int,jd,sE,vz,Br,ou⟩
noncomputable def zj (h:ac5)(v:aao):List Int:=match v with
 | .ref a=>match h.get? a with
  |some o=>match o.data with
   | .seq az _=>az.toList.map numOf
   |_=>[]
  |none=>[]
 |_=>[]
def Bs (h:ac5)(v:aao):Prop:=∃a az ns,v=.ref a/\h.IsTuple a az/\aeg az.toList ns/\ns≠[]
theorem Bt:∀{vs:List aao} {ns:List Int},aeg vs ns->vs.map numOf=ns
 |_,_,.nil=>rfl
 |_,_,.cons n t r=>by rw[aal,Bt r];rfl
theorem pM {az:Array aao}(t:h.IsTuple a az)(i:aeg az.toList ns):zj h (.ref a)=ns:=by
 obtain⟨o,e,_,n,d⟩:=t;unfold zj;dsimp only;rw[e];dsimp only;rw[d];exact Bt i
section
variable {A:abd}{b fin:Bool}{Q:Bool->aaE->Prop}
theorem Bu:∀{xs ys:List aao} {ns ms:List Int} {i:Nat},aeg xs ns->aeg ys ms->fin=decide (ns.length<ms.length)->Q (jd ns ms) s->KatLex prog w A b fin Q (xs.zip ys) i s
 |_,_,_,_,i,.nil,.nil,hf,h=>by subst hf;exact kat_nil h
 |_,_,_,_,i,.nil,.cons m t r,hf,h=>by subst hf;exact kat_nil (by exact h)
 |_,_,_,_,i,.cons n t r,.nil,hf,h=>by subst hf;exact kat_nil (by exact h)
 |_,_,_,_,i,.cons n t r,.cons m u q,hf,h=>by
  refine kat_cons (aeU ?_);unfold jd at h;by_cases e:n=m
  ·subst e;rw[hZ rfl] at h;rw[beq_self_eq_true];refine kat_yes (Bu r q ?_ h);rw[hf];simp
  ·rw[hV e] at h;rw[beq_eq_false_iff_ne.mpr e];refine kat_no ?_;cases hb:(b&&i==0) with
   |true=>exact oneLt_int h
   |false=>exact kat_one _ _ (lt_int h)
theorem Ob {hp:ac5}(keep:∀v,Bs hp v->Bs s.heap v/\zj s.heap v=zj hp v):KL (aaX prog w) A E s Oa (λx=>zj hp x.1) (tuples' true) (λx=>Bs hp x.1) where
 lt:=λx y st Q dx dy kd q=>by
  obtain⟨k1,k2⟩:=keep _ dx;obtain⟨k3,k4⟩:=keep _ dy;obtain⟨a,xs,ns,e1,t1,i1,_⟩:=k1;obtain⟨c,ys,ms,e2,t2,i2,_⟩:=k3;rw[←k2,←k4,e1,e2,pM t1 i1,pM t2 i2] at q;rw[lt'_eq];refine abQ (wpS_get ?_);rw[kd,e1,e2];obtain⟨o1,g1,_,n1,d1⟩:=t1;obtain⟨o2,g2,_,n2,d2⟩:=t2;refine abQ (wpS_lift (acN (kat_lt g1 d1 g2 d2 (Bu i1 i2 ?_ ⟨rfl,?_⟩))))
  ·rw[←i1.length,←i2.length,aaY,aaY]
  ·exact acF q
end
end Hc.Ts
namespace Hc.Dw
open PySem.W PySem.Calls
section
variable {A:abd}{d r I:aaL}{ds:Array aeM}
theorem SM (hh:A.handled=none)(Ao:d≠I):Walks prog w A I [I,d] [I] ds.size (λi v=>∃e,ds[i]? = some e/\v=e.key) (λi h=>h.IsKeyIter I d i ds.size ep/\mq h d ds ep) where
 sub:=λb hb=>by grind
 frame:=λ_ _ _ st hk=>⟨st.1.at λo e=>hk I (by simp) o e,st.2.at λo e=>hk d (by simp) o e⟩
 item:=λi s Q E hi st hQ=>VZ st.1 st.2 hi λh' t' sb=>hQ _ h' s.toks ⟨_,getElem?_pos ds i hi,rfl⟩ ⟨t',st.2.at λo e=>sb.extBut _ _ Ao e⟩ λb o hb e=>sb.extBut b o (λh=>hb (by simp[h])) e
 done:=λs Q E st hQ=>V0 hh st.1 st.2 (aaq _) λh' eb=>hQ h' s.toks λb o hb e=>eb b o (λh=>hb (by simp[h])) e
 self:=λ_ _ _ _ st hQ=>wpAny_pyIter_keyiter st.1 hQ
theorem V_ (lo:(d==acf)=false):KdlSrc prog w "dict" d d ds.size (λi v=>∃e,ds[i]? = some e/\v=e.key) (λh=>mq h d ds ep) where
 type:=λ_ hm=>hm.ty
 there:=λ_ hm=>⟨hm.lt,hm.lt⟩
 keep:=λ_ _ hm hk=>hm.at λo e=>hk d (.inl rfl) o e
 notList:=by decide
 notTuple:=by decide
 hint:=λ_ _ _ _ hm hq=>kdl_hint_dict hm.ty hq
 iter:=λ_ s hh hm=>⟨_,_,(λ_ _ hq=>VY lo hm hq),SM hh (aaW hm.lt),⟨⟨_,aas _ rfl,rfl,rfl⟩,hm.at λo e=>aak _ e⟩⟩
theorem sF {P:Nat->aao->Prop}{OK:ac5->Prop}(K:KdlSrc prog w T r d n P OK)(hh:A.handled=none)(hok:OK s.heap)(hn:n<=aaf){Q:List aao->aaE->Prop}(q:∀h' tk b8,(∀b o,s.heap.get? b=some o->h'.get? b=some o)->ItemsOf P b8 n->Q b8.toList {s with heap:=h',toks:=tk}):aaT (aaX prog w) A (collect (.ref r)) Q E s:=by
 have lt:=K.there _ hok;refine aab (wpAny_runValue (acD PySem.F.entry_proto_collect ?_));refine aab (abc (aah ⟨plainId_quiet PySem.F.plain_list_iadd _,acD PySem.F.entry_list_iadd ?_⟩));rw[Around.under_plainId PySem.F.plain_list_iadd _];have hS:(s.heap.push _).get? _=some {cls:=.type "list",data:=.seq #[] 0}:=aas _ rfl;refine kdl_extend (R:=λx s'=>match x with
  | .ok (.ret v)=>aaT _ A (match v with
   | .ref a=>do match (←load a).data with
    | .seq xs _=>pure xs.toList
    |_=>unsupported _
   |_=>unsupported _) Q E s'
  | .ok _=>False
  | .error e=>E e s') K hh (K.keep _ _ hok λb _ o e=>aak _ e) _ (acZ lt.1) (acZ lt.2) _ 0 hS (λh' tk b8 c' k' Ud tT=>?_) hn
 refine aab (wpAny_load Ud ?_);exact aah (q h' tk b8 (λb o e=>k' b o (aaW (aaF e)) (aak _ e)) tT)
end
end Hc.Dw
namespace Hc.Sy
open PySem.SetTable Hc.Sx
theorem UB:Slot "set_iterator" "__next__" "set_iterator.__next__":=by
 refine .of (owner:="set_iterator") (n:="__next__") ?_ (by rfl) (by rfl) (by rfl) ?_ ?_
 ·kernel_rfl
 ·first|exact .inl (by rfl)|exact .inr (by decide+kernel)
 rfl
theorem ZT:entryFor table "set_iterator.__next__"=some Builtin.«set_iterator.__next__»:=entryFor_of_tree (by kernel_rfl)
theorem ZU (a:aao):argsOk "set_iterator.__next__" ⟨[a],[]⟩:=by kernel_rfl
theorem ZV:Slot "set_iterator" "__iter__" "set_iterator.__iter__":=by
 refine .of (owner:="set_iterator") (n:="__iter__") ?_ (by rfl) (by rfl) (by rfl) ?_ ?_
 ·kernel_rfl
 ·first|exact .inl (by rfl)|exact .inr (by decide+kernel)
 rfl
theorem enT:entryFor table "set_iterator.__iter__"=some Builtin.«dict_keyiterator.__iter__»:=entryFor_alias (id':="dict_keyiterator.__iter__") (by kernel_rfl) rfl (by decide+kernel) (by kernel_rfl)
theorem arT (a:aao):argsOk "set_iterator.__iter__" ⟨[a],[]⟩:=by kernel_rfl
theorem enI:entryFor table "set.__iter__"=some Builtin.«frozenset.__iter__»:=entryFor_alias (id':="frozenset.__iter__") (by kernel_rfl) rfl (by decide+kernel) (by kernel_rfl)
theorem arI (a:aao):argsOk "set.__iter__" ⟨[a],[]⟩:=by kernel_rfl
def nB (w:ac2)(h:ac5)(a:aaL)(es:Array (Int×aao))(ep:Nat)(t:ad_):Prop:=
 ∃o,h.get? a=some o/\o.ExactSet/\o.data=.set es ep t/\t.fits es.size=true/\t.plain=true/\(Cz w=true\/t.led=true)/\VB t.place/\t.place.size=es.size
theorem nB.at {es:Array (Int×aao)}(x:nB w h a es ep t)(e:∀o,h.get? a=some o->h'.get? a=some o):nB w h' a es ep t:=by
 obtain⟨o,q,r⟩:=x;exact⟨o,e o q,r⟩
theorem nB.ty {es:Array (Int×aao)}(x:nB w s.heap a es ep t):s.TypeIs (.ref a) "set":=by
 obtain⟨o,e,c,_⟩:=x;exact⟨o,e,c.1⟩
theorem nB.lt {es:Array (Int×aao)}(x:nB w h a es ep t):a<h.objs.size:=by
 obtain⟨o,e,_⟩:=x;exact aaF e
def xf (w:ac2)(a:aaL)(ep:Nat)(es:Array (Int×aao)):Array (Int×aao):=if Cz w=true then afY (w.params.setOrder a ep) es else es
def gK (w:ac2)(t:ad_):Nat->Nat
 |0=>0
 |i+1=>if Cz w=true then 0 else t.place.getD i 0+1
def SN (w:ac2)(a:aaL)(n ep:Nat)(t:ad_)(i:Nat):Array aao:=#[.int (gK w t i:Nat) 0,.int i 0,.ref a,.int n 0,.int ep 0]
def DL (w:ac2)(h:ac5)(it a:aaL)(n ep:Nat)(t:ad_)(i:Nat):Prop:=∃o,h.get? it=some o/\o.cls=.type "set_iterator"/\o.data=.fields (SN w a n ep t i)
theorem DL.at (x:DL w h it a n ep t i)(e:∀o,h.get? it=some o->h'.get? it=some o):DL w h' it a n ep t i:=by
 obtain⟨o,q,r⟩:=x;exact⟨o,e o q,r⟩
theorem gf {A:abd}{α:Type}{b:Bool}{x y:Sem α}{Q:α->aaE->Prop}(h:b=false)(q:aaT M A y Q E s):aaT M A (if b=true then x else y) Q E s:=by
 rw[h];exact q
section
variable {A:abd}{es:Array (Int×aao)}
theorem Wa (x:nB w s.heap a es ep t)(q:Q (.ref s.heap.objs.size) {s with heap:=s.heap.push {cls:=.type "set_iterator",data:=.fields (SN w a es.size ep t 0)}}):aaT (aaX prog w) A (pyIter (.ref a)) Q E s:=by
 have ty:=x.ty;obtain⟨o,e1,e2,e3,e4,e5,e6,e7,e8⟩:=x;refine adJ ty PySem.F.slot_set_iter (aa4 PySem.F.slot_set_iter ty enI ?_ (arI _));unfold Builtin.«frozenset.__iter__» Builtin.Frozenset.slot0 slotArgs;simp only[bind_assoc,abH];refine aab (aah ?_);refine aab (aah ?_);refine aab (aab (afh e1 e3 e4 (aah ?_)));refine aab (aab (abI e1 e3 e4 ?_));refine aab (aab (acr (aah (aah ?_))));have nd:(!(w.params.followText "set-order")&&(!t.plain&&decide (es.size>1)))=false:=by rw[e5];simp
 refine gf nd ?_;refine aab (aah ?_);refine aab (aab (abI e1 e3 e4 (aah ?_)));refine aab (abc (aah ⟨_,rfl,"set_iterator",_,⟨_,aas _ rfl,rfl⟩,UB.lookup,?_⟩));simpa [rawInt,SN,gK] using q
theorem zk {Q:Option (aao×Nat)->aaE->Prop}(x:nB w s.heap a es ep t)(hi:i<es.size){e:Int×aao}(he:(xf w a ep es)[i]? = some e)(q:Q (some (e.2,gK w t (i+1))) s) :
  aaT (aaX prog w) A (setNext a (gK w t i) i ep) Q E s:=by
 obtain⟨o,e1,e2,e3,e4,e5,e6,e7,e8⟩:=x;refine aab (abI e1 e3 e4 ?_);refine aab (aab (acr (aah ?_)));unfold xf at he;by_cases b:Cz w=true
 ·rw[hZ b] at he;rw[hZ (show (aaX prog w).w.params.followText _=true from b),hV (by simp)];refine aab (aab (abI e1 e3 e4 ?_));refine aab (aab (acr (aah ?_)));rw[hZ (show (aaX prog w).w.params.followText _=true from b)];refine aab (acr (aah (aah ?_)));have Il:(afY ((aaX prog w).w.params.setOrder a ep) es)[i]? = some e:=he;rw[Il];have z:gK w t i=0:=by
   cases i with
   |zero=>rfl
   |succ i=>show (if Cz w=true then 0 else _)=0;rw[hZ b]
  simp_all[gK,Cz,hZ]
 ·rw[hV b] at he;rw[hV (show ¬(aaX prog w).w.params.followText _=true from b)];have led:=e6.resolve_left b;have nd:(!t.plain&&decide (es.size>1))=false:=by rw[e5];rfl
  refine gf nd ?_;refine aab (adx (by show (if (!t.led && !es.isEmpty)=true then _ else _)=_;rw[led];rfl) (aah ?_));have hb:below t.place (gK w t i)=i:=by
   obtain⟨b1,b2,b3⟩:=pA (j:=gK w t i) e7;rcases afO (below t.place (gK w t i)) i with z|z|z
   ·cases i with
    |zero=>lia
    |succ i=>
     have hs:gK w t (i+1)=t.place.getD i 0+1:=by show (if Cz w=true then 0 else _)=_;rw[hV b]
     have g:t.place.getD i 0=t.place[i]'(by lia):=by simp[show i<t.place.size from by lia]
     grind
   ·exact z
   ·have:=b1 i (by simp[*]) z;cases i with
    |zero=>exact absurd this (Nat.not_lt_zero _)
    |succ i=>
     have hs:gK w t (i+1)=t.place.getD i 0+1:=by show (if Cz w=true then 0 else _)=_;rw[hV b]
     have g:t.place.getD i 0=t.place[i]'(by lia):=by simp[show i<t.place.size from by lia]
     have r:=(e7 i (i+1) (by lia) (by simp[*]) (by lia));lia
  simp_all[getElem?_pos,gK,Cz,hV]
theorem Wb {Q:Option aao->aaE->Prop}(k:DL w s.heap it a es.size ep t i)(x:nB w s.heap a es ep t)(ne:it≠a)(hi:i<es.size){e:Int×aao}(he:(xf w a ep es)[i]? = some e)
  (q:∀h',DL w h' it a es.size ep t (i+1)->acL it s.heap h'->Q (some e.2) {s with heap:=h'}):aaT (aaX prog w) A (pyNext (.ref it)) Q E s:=by
 obtain⟨oi,i1,i2,i3⟩:=k;have ty:s.TypeIs (.ref it) _:=⟨oi,i1,i2⟩;have x0:=x;obtain⟨o,e1,e2,e3,e4,e5,e6,e7,e8⟩:=x;refine aab (acN (aa7 ty UB (aa4 UB ty ZT ?_ (ZU _))));refine aab (aah ?_);refine aab (adT i1 i3 ?_);refine aab (afh e1 e3 e4 ?_);rw[hV (by simp)];change aaT _ _ (setNext a _ _ _ >>= _) _ _ s;refine aab (zk x0 hi he ?_);refine aab (acP i1 i3 (by simp[SN]) ?_);have ö:=aci (Obj.mapFields (·.setIfInBounds 0 (rawInt (gK w t (i+1):Nat)))) i1 (ady (aca i3 _));have Zf:=aca i3 (·.setIfInBounds 0 (rawInt (gK w t (i+1):Nat)));refine aab (acP ö Zf (by simp[SN]) ?_);refine aah ⟨_,rfl,aah (q _ ⟨_,aci _ ö (ady (aca Zf _)),(aeB ..).trans ((aeB ..).trans i2),?_⟩ ((abF ..).trans (abF ..)))⟩;rw[aca Zf];rfl
end
end Hc.Sy
namespace Hc.Sy
open PySem.SetTable Hc.Sx PySem.W
section
variable {A:abd}{es:Array (Int×aao)}
theorem FQ {α:Type}(next:Nat->Nat):∀(n k:Nat) (left:List α) (out:Array α),left.length=n->(pickOrder.go next n k left out).toList.Perm (out.toList++left)
 |0,k,left,out,h=>by
  simp_all[acs,pickOrder.go,abG]
 |n+1,k,left,out,h=>by
  have hl:next k % left.length<left.length:=acW _ (by simp[*])
  unfold pickOrder.go;rw[aad hl];refine (FQ next n (k+1) _ _ (by grind)).trans ?_;rw[Array.toList_push,acg];refine aeN _ ?_;rw[List.eraseIdx_eq_take_drop_succ,List.singleton_append];refine List.perm_middle.symm.trans ?_;simp
theorem yd {α:Type}(next:Nat->Nat)(xs:Array α):(afY next xs).toList.Perm xs.toList:=by
 grind[FQ,next,afY]
theorem Bv:(xf w a ep es).toList.Perm es.toList:=by
 unfold xf;split
 ·exact yd _ _
 ·exact abB _
theorem Bw:(xf w a ep es).size=es.size:=by
 have:=(Bv (w:=w) (a:=a) (ep:=ep) (es:=es)).length_eq;simpa using this
theorem zo {Q:Option (aao×Nat)->aaE->Prop}(x:nB w s.heap a es ep t)(q:Q none s):aaT (aaX prog w) A (setNext a (gK w t es.size) es.size ep) Q E s:=by
 obtain⟨o,e1,e2,e3,e4,e5,e6,e7,e8⟩:=x;refine aab (abI e1 e3 e4 ?_);refine aab (aab (acr (aah ?_)));by_cases b:Cz w=true
 ·rw[hZ (show (aaX prog w).w.params.followText _=true from b),hV (by simp)];refine aab (aab (abI e1 e3 e4 ?_));refine aab (aab (acr (aah ?_)));rw[hZ (show (aaX prog w).w.params.followText _=true from b)];refine aab (acr (aah (aah ?_)));have hz:(afY ((aaX prog w).w.params.setOrder a ep) es)[es.size]? = none:=by
   have:=(yd ((aaX prog w).w.params.setOrder a ep) es).length_eq;rw[acE (by simpa using Nat.le_of_eq this)]
  rw[hz];exact q
 ·rw[hV (show ¬(aaX prog w).w.params.followText _=true from b)];have led:=e6.resolve_left b;have nd:(!t.plain&&decide (es.size>1))=false:=by rw[e5];rfl
  refine gf nd ?_;refine aab (adx (by show (if (!t.led && !es.isEmpty)=true then _ else _)=_;rw[led];rfl) (aah ?_));have hb:es.size<=below t.place (gK w t es.size):=by
   obtain⟨b1,b2,b3⟩:=pA (j:=gK w t es.size) e7;rcases acz (below t.place (gK w t es.size)) es.size with z|z
   ·obtain⟨m,hm⟩:∃m,es.size=m+1:=⟨es.size-1,by lia⟩;have hs:gK w t es.size=t.place.getD m 0+1:=by rw[hm];show (if Cz w=true then 0 else _)=_;rw[hV b]
    have g:t.place.getD m 0=t.place[m]'(by lia):=by simp[*]
    grind
   ·exact z
  rw[acE hb];exact q
theorem Wc {Q:Option aao->aaE->Prop}(hh:A.handled=none)(k:DL w s.heap it a es.size ep t es.size)(x:nB w s.heap a es ep t)
  (q:∀h',afg it s.heap h'->Q none {s with heap:=h'}):aaT (aaX prog w) A (pyNext (.ref it)) Q E s:=by
 obtain⟨oi,i1,i2,i3⟩:=k;have ty:s.TypeIs (.ref it) _:=⟨oi,i1,i2⟩;have x0:=x;obtain⟨o,e1,e2,e3,e4,e5,e6,e7,e8⟩:=x;refine aab (acN (aa7 ty UB (aa4 UB ty ZT ?_ (ZU _))));refine aab (aah ?_);refine aab (adT i1 i3 ?_);refine aab (afh e1 e3 e4 ?_);rw[hV (by simp)];change aaT _ _ (setNext a _ _ _ >>= _) _ _ s;refine aab (zo x0 ?_);refine aab (acP i1 i3 (by simp[SN]) ?_);refine aab ?_;refine aab (m:=afG _ _) (adx (by rfl) (abc ?_));refine aab (wpAny_handled ?_);rw[hh];refine aab (aah (wpAny_throw ?_));refine aab (ac7 ⟨_,aas _ rfl,rfl⟩ afH ?_);exact aah (q _ (((abF ..).extBut.push _).push _))
theorem SO (hh:A.handled=none)(Ao:a≠it):Walks prog w A it [it,a] [it] es.size (λi v=>∃e,(xf w a ep es)[i]? = some e/\v=e.2) (λi h=>DL w h it a es.size ep t i/\nB w h a es ep t) where
 sub:=λb hb=>by grind
 frame:=λ_ _ _ st hk=>⟨st.1.at λo e=>hk it (by simp) o e,st.2.at λo e=>hk a (by simp) o e⟩
 item:=λi s Q E hi st hQ=>by
  have Ap:i<(xf w a ep es).size:=by rw[Bw];exact hi
  exact Wb st.1 st.2 (Ne.symm Ao) hi (getElem?_pos _ i Ap) λh' t' sb=>hQ _ h' s.toks ⟨_,getElem?_pos _ i Ap,rfl⟩ ⟨t',st.2.at λo e=>sb.extBut _ _ Ao e⟩ λb o hb e=>sb.extBut b o (λh=>hb (by simp[h])) e
 done:=λs Q E st hQ=>Wc hh st.1 st.2 λh' eb=>hQ h' s.toks λb o hb e=>eb b o (λh=>hb (by simp[h])) e
 self:=λi s Q E st hQ=>by
  obtain⟨oi,i1,i2,i3⟩:=st.1;have ty:s.TypeIs (.ref it) _:=⟨oi,i1,i2⟩;refine adJ ty ZV (aa4 ZV ty enT ?_ (arT _));exact aah ⟨_,rfl,"set_iterator",_,ty,UB.lookup,hQ⟩
theorem Wd {Q:Bool->aaE->Prop}(hT:s.TypeIs (.ref a) "set")(h:Q false s):aaT (aaX prog w) A (Builtin.List.listLengthHint (.ref a)) Q E s:=by
 refine aab (ado hT PySem.F.slot_set_len.lookup ?_);generalize hid:("set.__len__":String)=id0;subst hid;refine aab (ac7 (b:=true) hT (by kernel_rfl) ?_);refine aab (ad5 hT ?_);exact aah h
theorem YC:KdlSrc prog w "set" a a es.size (λi v=>∃e,(xf w a ep es)[i]? = some e/\v=e.2) (λh=>nB w h a es ep t) where
 type:=λ_ hm=>hm.ty
 there:=λ_ hm=>⟨hm.lt,hm.lt⟩
 keep:=λ_ _ hm hk=>hm.at λo e=>hk a (.inl rfl) o e
 notList:=by decide
 notTuple:=by decide
 hint:=λ_ _ _ _ hm hq=>Wd hm.ty hq
 iter:=λ_ s hh hm=>⟨_,_,(λ_ _ hq=>Wa hm hq),SO hh (aaW hm.lt),⟨⟨_,aas _ rfl,rfl,rfl⟩,hm.at λo e=>aak _ e⟩⟩
end
end Hc.Sy
namespace Hc.Sy
open PySem.SetTable Hc.Sx PySem.W
abbrev tI (prog:adf)(w:ac2):aek prog w (List Int):=tupleKind (intKind prog w)
section
variable {A:abd}
theorem vA {α β:Type}(f:α->β->Sem (ForInStep β))(b:β)(xs:Array α)(h:∀x∈xs.toList,f x b=pure (.yield b)):forIn xs b f=pure b:=by
 rw[←afy];generalize xs.toList=l at h
 induction l with
 |nil=>rfl
 |cons x l ih=>
  rw[aej,h x aae];exact ih λy hy=>h y (aai _ hy)
theorem QM {az:Array aao}{o:Obj}{Q:Option (Array aao)->aaE->Prop}(e1:s.heap.get? a=some o)(e3:o.data=.seq az n)(q:Q (some az) s):aaT (aaX prog w) A (seqItems? (.ref a)) Q E s:=by
 refine aab (wpAny_load e1 ?_);rw[e3];exact aah q
theorem vB {ks:List Int}{vs:List aao}(h:ItemsAre (intKind prog w) ks vs):∀v∈vs,∃n t,v=.int n t:=by
 induction h with
 |nil=>simp
 | @cons k v' ks vs h1 _ ih=>
  intro v hv;rcases aaA.mp hv with rfl|hv
  ·obtain⟨t,rfl⟩:=Value.isInt_shape h1;lia
  ·exact ih v hv
theorem skI:rM (tI prog w) where
 cls:=λ{A E s k a Q} hk q=>by
  obtain⟨o,az,n,e1,e2,e3,e4⟩:=hk;have ty:s.TypeIs (.ref a) "tuple":=⟨o,e1,e2⟩;unfold ofAClassStatement;refine aab (ad5 ty ?_);refine aab (aah ?_);refine aab (QM e1 e3 ?_);dsimp only;rw[vA]
  ·exact aab (aah (aah q))
  ·intro x hx;obtain⟨n,t,rfl⟩:=vB e4 x hx;rfl
 byv:=λ{A E s k a Q} hk q=>by
  obtain⟨o,az,n,e1,e2,e3,e4⟩:=hk;have ty:s.TypeIs (.ref a) "tuple":=⟨o,e1,e2⟩;refine aab (ado ty PySem.F.slot_tuple_hash.lookup ?_);refine aab (QM e1 e3 ?_);rw[vA]
  ·exact aab (aah (aah q))
  ·intro x hx;obtain⟨n,t,rfl⟩:=vB e4 x hx;rfl
 kept:=λ{h h' k a d o es ep t} hk ho hd hs=>by
  obtain⟨o1,az,n,e1,e2,e3,e4⟩:=hk;have ne:a≠d:=λz=>by
   lia
  exact⟨o1,az,n,hs.extBut _ _ ne e1,e2,e3,e4⟩
end
end Hc.Sy
namespace L2
open Hc.Dw Hc.Ts
def We:V->Int
 | .int i=>i
 |_=>0
def eV (H:Hp)(b:aaL):List Int:=match H b with
 |some (.tup xs)=>xs.map We
 |_=>[]
theorem Bx (ns:List Int):(ns.map V.int).map We=ns:=by
 induction ns with
 |nil=>rfl
 |cons n r ih=>rw[aal,aal,ih];rfl
def SQ (K:aam)(H:Hp)(p:aaL)(bs:List aaL):Prop:=g_ K H p (bs.map V.ref)\/iG K H p (bs.map V.ref)\/∃ep es,H p=some (DN p ep es)/\es.map (·.2.1)=bs
theorem mZ:∀{bs:List aaL} {az:List aao},bf (bs.map V.ref) az->az=bs.map Value.ref
 | [],_,.nil=>rfl
 |b::bs,_,.cons r t=>by rw[mZ t];cases r;rfl
theorem ye:∀(bs:List aaL),bf (bs.map V.ref) (bs.map Value.ref)
 | []=>.nil
 |b::bs=>.cons rfl (ye bs)
theorem yf {bs:List aaL}{out:List aao}(h:out.Perm (bs.map Value.ref)):∃nX:List aaL,out=nX.map Value.ref/\nX.Perm bs:=by
 let g:aao->aaL:=λv=>match v with
  | .ref a=>a
  |_=>0
 refine⟨out.map g,?_,?_⟩
 ·rw[aat]
  conv=>lhs;rw[←adC out]
  apply aav;intro v hv;obtain⟨b,_,rfl⟩:=aan.mp (h.mem_iff.mp hv);rfl
 ·have:=h.map g;rw[aat] at this;have e:bs.map (g∘Value.ref)=bs:=by
   conv=>rhs;rw[←adC bs]
   rfl
  lia
theorem Oc (I:aG X ċ σ H s)(h:H b=some (.tup (ns.map V.int)))(n:ns≠[]):Bs s.heap (.ref b)/\zj s.heap (.ref b)=eV H b:=by
 obtain⟨_,az,rv,it,_⟩:=I.hok b _ h;have ia:=f9 rv;refine⟨⟨b,az.toArray,ns,rfl,it,by lia,n⟩,?_⟩;rw[pM it (by simpa using ia)];unfold eV;rw[h];exact (Bx ns).symm
theorem yg {v:aao}(t:Bs h v)(k:∀b az,h.IsTuple b az->h'.IsTuple b az):Bs h' v/\zj h' v=zj h v:=by
 obtain⟨a,az,ns,rfl,q,i,n⟩:=t;refine⟨⟨a,az,ns,rfl,k a az q,i,n⟩,?_⟩;rw[pM q i,pM (k a az q) i]
theorem FR {h:ac5}:∀{vs:List aao},(∀v∈vs,Bs h v)->∃fs,PySem.W.KatTups h vs fs/\fs.length=vs.length/\∀f∈fs,∃n t,f=.int n t
 | [],_=>⟨[],.nil,rfl,λf hf=>by cases hf⟩
 |v::vs,hv=>by
  obtain⟨fs,k1,k2,k3⟩:=FR λu hu=>hv u (aai _ hu);obtain⟨a,az,ns,rfl,⟨o,e,c,n,d⟩,i,ne⟩:=hv v aae;have:∃m t r,az.toList=.int m t::r:=by
   generalize az.toList=l at i;cases i with
   |nil=>lia
   |cons m t r=>lia
  obtain⟨m,t,r,el⟩:=this;refine⟨.int m t::fs,.cons e c d (by rw[←aa0,el];rfl) k1,by rw[aaw,aaw,k2],λf hf=>?_⟩;grind
def YD:aao->aaL
 | .ref a=>a
 |_=>0
theorem DM {O:KeyOrd}{p:aaL}{bs:List aaL}{Q:VK}(kf:aaL->O.α)(bI:SortKind)(I:aG X ċ σ H s)(hz:bs.length<64)(hu:X.A.units+64<abW)
  (kk:∀(A:abd) (E:aao->aaE->Prop) (mJ:List aaL) (s6:aaE) (Q6:SortKind->aaE->Prop),mJ.Perm bs->2<=mJ.length->(∀b o,s.heap.get? b=some o->s6.heap.get? b=some o)->Q6 bI s6->aaT (aaX X.prog X.w) A (keyKind' (mJ.map Value.ref).toArray) Q6 E s6)
  (kc:2<=bs.length->∀(A:abd) (E:aao->aaE->Prop) (s6:aaE),A.units<abW->(∀b o,s.heap.get? b=some o->s6.heap.get? b=some o)->KL (aaX X.prog X.w) A E s6 O (λx=>kf (YD x.1)) bI (λx=>∃b∈bs,x.1=.ref b))
  (Xa:∀(Q:List aao->aaE->Prop) (E:aao->aaE->Prop),(∀h1 tk (mJ:List aaL),mJ.Perm bs->(∀b o,s.heap.get? b=some o->h1.get? b=some o)->Q (mJ.map Value.ref) {s with heap:=h1,toks:=tk})->aaT (aaX X.prog X.w) X.A.in1 (collect (.ref p)) Q E s)
  (q:∀(l:aaL) (nX:List aaL),H l=none->nX.Perm bs->nX.Pairwise (λx y=>O.blt (kf y) (kf x)=false)->Q (.ref l) (dz H l (.lst (nX.map V.ref)))) :
  aaT (aaX X.prog X.w) X.A (call (.builtin "sorted") [.ref p]) (EP X ċ σ Q) X.xe s:=by
 refine afE kind_sorted plain_sorted entry_sorted (args_sorted1 _) ?_;refine aab (aah ?_);refine aab (Xa _ _ λh1 tk mJ Ar k1=>?_);have hz:mJ.length<64:=by rw[Ar.length_eq];exact hz
 have Pw:mJ.length<=aaf:=by rw[acq];lia
 have I1:=I.kept (t':=tk) k1;refine aab (wpAny_newList ?_ (by rw[aaa];exact Pw));have Ue:(h1.push _).get? _=some (seqObj "list" (mJ.map Value.ref).toArray 0):=aas _ rfl;have kt:∀(h6:ac5),(∀b o,b≠h1.objs.size->(h1.push {cls:=.type "list",data:=.seq (mJ.map Value.ref).toArray}).get? b=some o->h6.get? b=some o)->∀b o,s.heap.get? b=some o->h6.get? b=some o:=λh6 k6 b o e=>
  k6 b o (aaW (aaF (k1 b o e))) (aak _ (k1 b o e))
 refine aab (abx (aa4 slot_list_sort ⟨_,Ue,rfl⟩ entry_list_sort (KW Ue (by rw[aaa];exact hz)
  (λh2 h6 Q6 k6 q6=>kk _ _ mJ _ _ Ar (by rw[aaa] at h2;exact h2) (kt h6 k6) q6) (λh2 h6 k6=>kc (by rw[aaa] at h2;rw[←Ar.length_eq];exact h2) _ _ _ (by (simp;lia)) (kt h6 k6)) (λv hv=>by
   grind) λout hp hw=>⟨_,rfl,?_⟩) (args_list_sort _)))
 obtain⟨nX,e,GG⟩:=yf hp;subst e;obtain⟨ee,he⟩:=sortedHeap_at Ue;have keep:∀b o,h1.get? b=some o->(sortedHeap (h1.push {cls:=.type "list",data:=.seq (mJ.map Value.ref).toArray}) _ (mJ.map Value.ref) (nX.map Value.ref).toArray).get? b=some o:=λb o e=>by
  have hb:=aaF e;rw[sortedHeap_old (aaW hb) (by rw[ab7];exact acT hb)];exact aak _ e
 have Rj:(nX.map V.ref).length<=aaf:=by rw[aaa,GG.length_eq];exact Pw
 refine aah ⟨_,rfl,.ref _,_,I1.laid keep (aaq _) (show cR X.prog X.w _ _ _ (.lst _) from ⟨Rj,nX.map Value.ref,ee,ye nX,by simpa using he⟩),rfl,q _ nX (I1.hok.fresh (aaq _)) (GG.trans Ar) ?_⟩;exact ach.mp hw
theorem sG {p:aaL}{bs:List aaL}{Q:VK}(I:aG X ċ σ H s)(hz:bs.length<64)(hu:X.A.units+64<abW)(tu:∀b∈bs,∃ns:List Int,H b=some (.tup (ns.map V.int))/\ns≠[])
  (Xa:∀(Q:List aao->aaE->Prop) (E:aao->aaE->Prop),(∀h1 tk (mJ:List aaL),mJ.Perm bs->(∀b o,s.heap.get? b=some o->h1.get? b=some o)->Q (mJ.map Value.ref) {s with heap:=h1,toks:=tk})->aaT (aaX X.prog X.w) X.A.in1 (collect (.ref p)) Q E s)
  (q:∀(l:aaL) (nX:List aaL),H l=none->nX.Perm bs->nX.Pairwise (λx y=>jd (eV H y) (eV H x)=false)->Q (.ref l) (dz H l (.lst (nX.map V.ref)))) :
  aaT (aaX X.prog X.w) X.A (call (.builtin "sorted") [.ref p]) (EP X ċ σ Q) X.xe s:=by
 have tI:∀b∈bs,Bs s.heap (.ref b)/\zj s.heap (.ref b)=eV H b:=λb hb=>by
  obtain⟨ns,e,ne⟩:=tu b hb;exact Oc I e ne
 have kt:∀(h6:ac5),(∀b o,s.heap.get? b=some o->h6.get? b=some o)->∀b az,s.heap.IsTuple b az->h6.IsTuple b az:=λh6 k6 b az ⟨o,e,z⟩=>⟨o,k6 b o e,z⟩;refine DM (O:=Oa) (eV H) (tuples' true) I hz hu (λA E mJ s6 Q6 Ar h2 k6 q6=>?_) (λ_ A E s6 hA k6=>?_) Xa q
 ·obtain⟨fs,f1,f2,f3⟩:=FR λv hv=>by
   obtain⟨b,hb,rfl⟩:=aan.mp hv;exact (yg (tI b (Ar.mem_iff.mp hb)).1 (kt _ k6)).1
  exact PySem.W.kat_kind (T:=.type "int") f1 (by grind) (λv hv=>by
   obtain⟨n,t,rfl⟩:=f3 v hv;exact PySem.W.Looks.of_pure rfl) (by decide) q6
 ·have c:=Ob (prog:=X.prog) (w:=X.w) (A:=A) (E:=E) λv hv=>yg hv (kt _ k6);refine⟨λx y st Q dx dy kd qq=>?_⟩;obtain⟨b,hb,e1⟩:=dx;obtain⟨d,hd,e2⟩:=dy;refine c.lt x y st Q (by rw[e1];exact (tI b hb).1) (by rw[e2];exact (tI d hd).1) kd ?_;rw[e1,e2,(tI b hb).2,(tI d hd).2];rw[e1,e2] at qq;exact qq
theorem zp (hc:X.calm=true)(hu:X.A.units+64<abW):eW X (.builtin "sorted") (λxs H Q=>∃(p:aaL) (bs:List aaL),xs=[.ref p]/\SQ X.K H p bs/\bs.length<64/\(∀b∈bs,∃ns:List Int,H b=some (.tup (ns.map V.int))/\ns≠[])/\
  ∀(l:aaL) (nX:List aaL),H l=none->nX.Perm bs->nX.Pairwise (λx y=>jd (eV H y) (eV H x)=false)->Q (.ref l) (dz H l (.lst (nX.map V.ref)))):=by
 intro ċ s σ H xs us Q I r h;obtain⟨p,bs,rfl,Pr,hz,tu,q⟩:=h;obtain⟨u,rfl,rx⟩:=i9 r;cases rx;have Pw:bs.length<=aaf:=by rw[acq];lia
 have Xa:∀(Q:List aao->aaE->Prop) (E:aao->aaE->Prop),(∀h1 tk (mJ:List aaL),mJ.Perm bs->(∀b o,s.heap.get? b=some o->h1.get? b=some o)->Q (mJ.map Value.ref) {s with heap:=h1,toks:=tk})->aaT (aaX X.prog X.w) X.A.in1 (collect (.ref p)) Q E s:=by
  intro Q E hq;rcases Pr with hs|hs|⟨ep,es,hs,rfl⟩
  ·obtain⟨az,rv,pl,_⟩:=I.list hs;obtain⟨o,e,c,n,d⟩:=pl.isList;have e2:=mZ rv;subst e2;exact afN p (.inl rfl) e c d (λh1 k1=>by simpa using hq h1 s.toks bs (abB _) k1) (by rw[aaz,aaa];exact Pw)
  ·obtain⟨az,rv,pl,_⟩:=I.tuple hs;obtain⟨o,e,c,n,d⟩:=pl;have e2:=mZ rv;subst e2;exact afN p (.inr rfl) e c d (λh1 k1=>by simpa using hq h1 s.toks bs (abB _) k1) (by rw[aaz,aaa];exact Pw)
  ·obtain⟨lo,ds,rd,n,at_⟩:=I.rawD hs;refine sF (A:=X.A.in1) (V_ lo) (I.ok.hd hc) rd (by rw[n];rw[aaa] at Pw;exact Pw) λh1 tk b8 k1 ia=>?_;have e:b8.toList=(es.map (·.2.1)).map Value.ref:=by
    apply acU;intro i;rw[aa0,aat,aar];by_cases hi:i<b8.size
    ·rw[getElem?_pos b8 i hi];obtain⟨en,e1,e2⟩:=ia.2 i _ (getElem?_pos b8 i hi);have Ap:i<ds.size:=by rw[←ia.1];exact hi
     rw[getElem?_pos ds i Ap] at e1;cases e1;obtain⟨x,m,ek,_⟩:=at_ i Ap;rw[m,e2,ek];rfl
    ·rw[getElem?_neg b8 i hi,List.getElem?_eq_none (by rw[←n,←ia.1];lia)];rfl
   rw[e];exact hq h1 tk _ (abB _) k1
 exact sG I hz hu tu Xa q
end L2
namespace L2
open Hc.Dw Hc.Ts
def ah (ns:List Int):U:=.tup (ns.map .int)
def Od:U->Option (List Int)
 | .tup xs=>match jr xs with
  |some (n::ns)=>some (n::ns)
  |_=>none
 |_=>none
def sH:List U->Option (List (List Int))
 | []=>some []
 |u::us=>match Od u,sH us with
  |some ns,some nj=>some (ns::nj)
  |_,_=>none
def HA (x:List Int):List (List Int)->List (List Int)
 | []=>[x]
 |y::r=>if jd y x=true then y::HA x r else x::y::r
def fX (l:List (List Int)):List (List Int):=l.foldr HA []
theorem qH (x:List Int):∀l,(HA x l).Perm (x::l)
 | []=>.refl _
 |y::r=>by
  unfold HA;split
  ·exact ((qH x r).cons y).trans (.swap x y r)
  rfl
theorem aH:∀l,(fX l).Perm l
 | []=>.refl _
 |x::l=>(qH x _).trans ((aH l).cons x)
def Wf (l:List (List Int)):Prop:=l.Pairwise λx y=>jd y x=false
theorem FT (x:List Int):∀{l},Wf l->Wf (HA x l)
 | [],_=>abE _ _
 |y::r,h=>by
  obtain⟨h1,h2⟩:=ab_.mp h;unfold HA;split
  ·rename_i c;refine ab_.mpr ⟨λz hz=>?_,FT x h2⟩;rcases aaA.mp ((qH x r).mem_iff.mp hz) with rfl|hz
   ·exact KeyOrd.klt_asymm (O:=Oa) c
   ·exact h1 z hz
  ·rename_i c;have c:=by simpa using c
   refine ab_.mpr ⟨λz hz=>?_,h⟩;rcases aaA.mp hz with rfl|hz
   ·exact c
   ·exact adY (O:=Oa) c (h1 z hz)
theorem my:∀l,Wf (fX l)
 | []=>List.Pairwise.nil
 |x::l=>FT x (my l)
theorem uf:∀{l m:List (List Int)},l.Perm m->Wf l->Wf m->l=m
 | [],m,p,_,_=>(List.nil_perm.mp p).symm
 |x::l,[],p,_,_=>absurd p.length_eq (by simp)
 |x::l,y::m,p,h1,h2=>by
  obtain⟨a1,a2⟩:=ab_.mp h1;obtain⟨b1,b2⟩:=ab_.mp h2;have e:x=y:=by
   have hx:=p.mem_iff.mp aae;have hy:=p.mem_iff.mpr aae;rcases aaA.mp hx with rfl|hx
   ·rfl
   ·rcases aaA.mp hy with rfl|hy
    ·rfl
    ·exact ou x y (b1 x hx) (a1 y hy)
  subst e;rw[uf (p.cons_inv) a2 b2]
theorem Oe (h:Od u=some ns):u=ah ns/\ns≠[]:=by
 unfold Od at h;split at h
 ·split at h
  ·rename_i xs n r e;cases h;rw[lu e];exact⟨rfl,by simp⟩
  ·cases h
 ·cases h
theorem kF:∀{us:List U} {nj:List (List Int)},sH us=some nj->us=nj.map ah/\∀ns∈nj,ns≠[]
 | [],_,h=>by cases h;simp
 |u::us,nj,h=>by
  unfold sH at h;split at h
  ·rename_i ns r e1 e2;cases h;obtain⟨e3,n3⟩:=Oe e1;obtain⟨e4,n4⟩:=kF e2;grind
  ·cases h
theorem SS (h:Rp K H A (ah ns) v):∃b,v=.ref b/\H b=some (.tup (ns.map V.int))/\ns.length<=aaf:=by
 obtain⟨b,ys,e,q,l,r⟩:=h;rw[r.toI] at q;exact⟨b,e,q,by simpa using l⟩
theorem SV (q:H b=some (.tup (ns.map V.int)))(l:ns.length<=aaf):Rp K H A (ah ns) (.ref b):=by
 exact⟨b,_,rfl,q,by simpa using l,pf ns⟩
theorem zq (q:H b=some (.tup (ns.map V.int))):eV H b=ns:=by unfold eV;rw[q];exact Bx ns
theorem kG:∀{nj:List (List Int)} {xs:List V},aU K H A (nj.map ah) xs->∃bs:List aaL,xs=bs.map V.ref/\bs.map (eV H)=nj/\∀b∈bs,H b=some (.tup ((eV H b).map V.int))/\(eV H b).length<=aaf
 | [],xs,h=>by subst h;simp
 |ns::nj,xs,h=>by
  obtain⟨x,r,rfl,h1,h2⟩:=h;obtain⟨b,rfl,q,l⟩:=SS h1;obtain⟨bs,rfl,e,z⟩:=kG h2;refine⟨b::bs,rfl,by rw[aal,e,zq q],λc hc=>?_⟩;rcases aaA.mp hc with rfl|hc
  ·rw[zq q];exact⟨q,l⟩
  ·exact z c hc
theorem By {bs:List aaL}(h:∀b∈bs,H b=some (.tup ((eV H b).map V.int))/\(eV H b).length<=aaf):aU K H A ((bs.map (eV H)).map ah) (bs.map V.ref):=by
 induction bs with
 |nil=>rfl
 |cons b bs ih=>exact aU.cons (SV (h b aae).1 (h b aae).2) (ih λc hc=>h c (aai _ hc))
def mz (us:List U):R U:=match sH us with
 |some nj=>if nj.length<64 then .ok (.lst ((fX nj).map ah)) else .stk
 |none=>.stk
def zu:List U->R U:=λus=>match us with
 | [.lst xs]=>mz xs
 | [.tup xs]=>mz xs
 | [.dct ks _]=>if DC ks=true then mz ks else .stk
 |_=>.stk
def zv (K:aam):List V->Hp->VK->Prop:=λxs H Q=>∃(p:aaL) (bs:List aaL),xs=[.ref p]/\SQ K H p bs/\bs.length<64/\(∀b∈bs,∃ns:List Int,H b=some (.tup (ns.map V.int))/\ns≠[])/\
  ∀(l:aaL) (nX:List aaL),H l=none->nX.Perm bs->nX.Pairwise (λx y=>jd (eV H y) (eV H x)=false)->Q (.ref l) (dz H l (.lst (nX.map V.ref)))
theorem HB:lT K (zv K) .O zu:=λA H vs us z Q h mu e q=>by
 have fin:∀(xs:List U) (p:aaL) (bs:List aaL),mz xs=.ok z->aU K H A xs (bs.map V.ref)->SQ K H p bs->zv K [.ref p] H Q:=by
  intro xs p bs e r Pr;unfold mz at e;split at e
  ·rename_i nj e1;split at e
   ·cases e;obtain⟨e2,ne⟩:=kF e1;subst e2;obtain⟨mJ,e3,e4,e5⟩:=kG r;have e6:=by
     exact (List.map_inj_right λ_ _ h=>by lia).mp e3
    subst e6;have n1:bs.length=nj.length:=by grind
    refine⟨p,bs,rfl,Pr,by lia,λb hb=>⟨_,(e5 b hb).1,ne _ (by rw[←e4];exact abi hb)⟩,λl nX hn hp hw=>?_⟩;have e7:=uf ((hp.map (eV H)).trans (by rw[e4];exact (aH nj).symm)) (ach.mpr hw) (my nj);refine q _ _ (cD hn _) ⟨l,rfl,hn,?_⟩;rw[←e7];refine cI mu (By λb hb=>e5 b (hp.mem_iff.mp hb)) hn ?_;have:aaf=16777216:=rfl;rw[aaa,aaa,hp.length_eq];lia
   ·cases e
  ·cases e
 unfold zu at e;split at e
 ·obtain⟨v,rfl,p⟩:=h.one;obtain⟨a,ys,rfl,h1,l1,r1⟩:=p;have e':=e;unfold mz at e';split at e'
  ·rename_i nj e1;have r2:=r1;rw[(kF e1).1] at r2;obtain⟨bs,rfl,_⟩:=kG r2;exact fin _ a bs e r1 (.inl (g_.of h1))
  ·cases e'
 ·obtain⟨v,rfl,p⟩:=h.one;obtain⟨a,ys,rfl,h1,l1,r1⟩:=p;have e':=e;unfold mz at e';split at e'
  ·rename_i nj e1;have r2:=r1;rw[(kF e1).1] at r2;obtain⟨bs,rfl,_⟩:=kG r2;exact fin _ a bs e r1 (.inr (.inl (iG.of h1)))
  ·cases e'
 ·rename_i ks ws;split at e
  ·rename_i c;obtain⟨v,rfl,p⟩:=h.one;obtain⟨a,ys,rfl,h1,l1,r1⟩:=p;obtain⟨es,ep,q1,kt,e1,e2⟩:=DH c h1;refine fin ks a _ e ?_ (.inr (.inr ⟨ep,es,q1,rfl⟩));subst e1;clear e fin e2 r1 h1 c q1 h
   induction es with
   |nil=>rfl
   |cons x es ih=>exact aU.cons (KI (kt x aae)) (ih λy hy=>kt y (aai _ hy))
  ·cases e
 ·cases e
def KY (K:aam):List V->Hp->VK->Prop:=λxs H Q=>∃(p:aaL) (ns:List Int),xs=[.ref p]/\(g_ K H p (ns.map V.int)\/iG K H p (ns.map V.int))/\ns.length<64/\
  ∀(l:aaL) (Ad:List Int),H l=none->Ad.Perm ns->Ad.Pairwise (·<=·)->Q (.ref l) (dz H l (.lst (Ad.map V.int)))
def vC:List U->R U:=λus=>match C_ us with
 | .ok z=>.ok z
 |_=>zu us
theorem KZ:lT K (λxs H Q=>KY K xs H Q\/zv K xs H Q) .O vC:=λA H vs us z Q h mu e q=>by
 unfold vC at e;split at e
 ·rename_i z' e1;cases e;exact .inl (Hg A H vs us _ Q h mu e1 q)
 ·exact .inr (HB A H vs us z Q h mu e q)
theorem HC (hc:X.calm=true)(hu:X.A.units+64<abW):eW X (.builtin "sorted") (λxs H Q=>KY X.K xs H Q\/zv X.K xs H Q):=by
 intro ċ s σ H xs us Q I r h;rcases h with h|h
 ·exact yI ċ s σ H xs us Q I r h
 ·exact zp hc hu ċ s σ H xs us Q I r h
end L2
namespace L2
open Hc.Dw Hc.Ts Hc.Sx Hc.Sy
def gg (b8:List (List Int))(x:List Int):List (List Int):=if x∈b8 then b8 else b8++[x]
def aX (l:List (List Int)):List (List Int):=l.foldl gg []
def K0 (w:ac2)(l:aaL)(bs:List aaL)(h:ac5):Prop:=∃es ep t,nB w h l es ep t/\(es.toList.map (·.2)).Perm (bs.map Value.ref)
theorem K1 {vs:List aao}(h:aeg vs ns):ItemsAre (intKind prog w) ns vs:=by
 induction h with
 |nil=>exact .nil
 |cons n t _ ih=>exact .cons (intKind_is _ _ _ _) ih
section
variable {e:ab6}{pos lW p1 p2:Pos}{b1:Bool}{ga:Ev->R (List U×Ev)}
def xg (H:Hp)(bs:List aaL)(i:Nat):List Int×aaL:=(eV H (bs.getD i 0),bs.getD i 0)
theorem yh (H:Hp)(bs:List aaL):∀n,n<=bs.length->(ig (xg H bs) n).map (·.1)=aX ((bs.take n).map (eV H))
 |0,_=>by simp[ig,aX]
 |n+1,h=>by
  have hn:=by omega
  have ih:=yh H bs n (by lia);have e1:=aaO hn;have e2:xg H bs n=(eV H bs[n],bs[n]):=by unfold xg;simp[aad hn]
  rw[e1,aaD];unfold aX at ih ⊢;rw[afR,←ih];show (nN _ _ _).map (·.1)=gg _ _;rw[e2];unfold nN gg;by_cases c:eV H bs[n]∈(ig (xg H bs) n).map (·.1)
  ·rw[hZ c,hZ c]
  ·rw[hV c,hV c,aaD];rfl
theorem Bz (H:Hp)(bs:List aaL):(ig (xg H bs) bs.length).map (·.1)=aX (bs.map (eV H)):=by
 simp[yh,aaq,abj]
def K2 (w:ac2)(K:aam):List V->Hp->VK->Prop:=λxs H Q=>∃(p:aaL) (bs:List aaL),xs=[.ref p]/\g_ K H p (bs.map V.ref)/\(∀b∈bs,H b=some (.tup ((eV H b).map V.int)))/\(aX (bs.map (eV H))).length<2046/\
 ∀(l:aaL) (mJ:List aaL),H l=none->mJ.map (eV H)=aX (bs.map (eV H))->(∀b∈mJ,b∈bs)->Q (.ref l) (dz H l (.ext (K0 w l mJ)))
theorem yi (hc:X.calm=true)(hu:X.A.units+64<abW):eW X (.type "set") (K2 X.w X.K):=by
 intro ċ s σ H xs us Q I r h;obtain⟨p,bs,rfl,hs,tu,hb,q⟩:=h;obtain⟨u,rfl,rx⟩:=i9 r;cases rx;obtain⟨az,rv,pl,_⟩:=I.list hs;have e2:=mZ rv;subst e2;have sz:(bs.map Value.ref).toArray.size=bs.length:=by simp
 refine Bg (val:=xg H bs) skI (λ{h h' k a} hk m=>?_) (show X.A.units+1+1+1<abW by lia) (I.ok.hd hc) pl.isList (λi v hv=>?_) (λj hj=>?_) ?_ λh' tk hS hk=>?_
 ·obtain⟨o,az,n,e1,e2,e3,e4⟩:=hk;obtain⟨o',Cu,Py,n',e3'⟩:=m a az ⟨o,e1,e2,n,e3⟩;exact⟨o',az,n',Cu,Py,e3',e4⟩
 ·rw[←aa0] at hv;rw[aar] at hv;unfold xg;cases z:bs[i]? with
  |none=>rw[z] at hv;cases hv
  |some b=>rw[z] at hv;simp only[List.getD,z];exact (aaP hv).symm
 ·have hj:=by rw[sz] at hj;exact hj
  have em:bs.getD j 0=bs[j]:=by simp[aad hj]
  unfold xg;rw[em];obtain⟨_,az,rv,it,_⟩:=I.hok _ _ (tu _ (aaU hj));obtain⟨o,h1,h2,n,h3⟩:=it;exact⟨o,_,n,h1,h2,h3,by simpa using K1 (f9 rv)⟩
 ·rw[sz];have:=congrArg aev (Bz H bs);grind
 ·rw[sz] at hS;obtain⟨o,es,ep,t,C,g1,g2,g3,g4,g5⟩:=hS;have Xb:nB X.w h' _ es ep t:=⟨o,g1,g2,g3,g4.fits,g4.pl,g5,g4.tab.ris,g4.tab.sz⟩;have mem:∀x∈ig (xg H bs) bs.length,x.1=eV H x.2/\x.2∈bs:=λx hx=>by
   obtain⟨j,hj,rfl⟩:=mX _ _ x hx;refine⟨rfl,?_⟩;have em:bs.getD j 0=bs[j]:=by simp[aad hj]
   show bs.getD j 0∈bs;rw[em];exact aaU hj
  refine⟨.ref _,_,I.laid (o:=.ext (K0 X.w _ ((ig (xg H bs) bs.length).map (·.2)))) hk (aaq _)
   ⟨⟨es,ep,t,Xb,?_⟩,⟨o,g1⟩,λh1 h2 ⟨es,ep,t,r,z⟩ k=>⟨es,ep,t,r.at k,z⟩⟩,rfl,q _ _ (I.hok.fresh (aaq _)) ?_ λb hb=>?_⟩
  ·refine (g4.per.map (·.2)).trans (List.Perm.of_eq ?_);rw[aat,aat];rfl
  ·rw[←Bz H bs,aat];exact aav λx hx=>(mem x hx).1.symm
  ·obtain⟨x,hx,rfl⟩:=aan.mp hb;exact (mem x hx).2
def K3 (w:ac2):List V->Hp->VK->Prop:=λxs H Q=>∃(p:aaL) (bs:List aaL),xs=[.ref p]/\H p=some (.ext (K0 w p bs))/\bs.length<64/\(∀b∈bs,∃ns:List Int,H b=some (.tup (ns.map V.int))/\ns≠[])/\
  ∀(l:aaL) (nX:List aaL),H l=none->nX.Perm bs->nX.Pairwise (λx y=>jd (eV H y) (eV H x)=false)->Q (.ref l) (dz H l (.lst (nX.map V.ref)))
theorem DP (hc:X.calm=true)(hu:X.A.units+64<abW):eW X (.builtin "sorted") (K3 X.w):=by
 intro ċ s σ H xs us Q I r h;obtain⟨p,bs,rfl,hs,hz,tu,q⟩:=h;obtain⟨u,rfl,rx⟩:=i9 r;cases rx;obtain⟨⟨es,ep,t,Xb,per⟩,_,_⟩:=I.hok p _ hs;refine sG I hz hu tu (λQ E hq=>?_) q;have n:=by have:=per.length_eq;simpa using this
 refine sF (A:=X.A.in1) YC (I.ok.hd hc) Xb (by rw[acq];lia) λh1 tk b8 k1 ia=>?_;have e:b8.toList=(xf X.w p ep es).toList.map (·.2):=by
  apply acU;intro i;rw[aa0,aar,aa0];by_cases hi:i<b8.size
  ·rw[getElem?_pos b8 i hi];obtain⟨en,e1,e2⟩:=ia.2 i _ (getElem?_pos b8 i hi);rw[e1,e2];rfl
  ·rw[getElem?_neg b8 i hi,getElem?_neg _ i (by rw[Bw,←ia.1];exact hi)];rfl
 obtain⟨mJ,e3,e4⟩:=yf ((Bv.map (·.2)).trans per);rw[e,e3];exact hq h1 tk mJ e4 k1
def kH:List U->R U:=λus=>match us with
 | [.lst xs]=>match sH xs with
  |some nj=>if (aX nj).length<64 then .ok (.lst ((fX (aX nj)).map ah)) else .stk
  |none=>.stk
 |_=>.stk
theorem BA:∀(l b8:List (List Int)) (x:List Int),x∈l.foldl gg b8->x∈b8\/x∈l
 | [],b8,x,h=>.inl h
 |y::l,b8,x,h=>by
  rcases BA l _ x h with z|z
  ·grind[gg,aae]
  ·exact .inr (aai _ z)
theorem BB:lT K (λvs H Q=>K2 w K vs H λx H2=>K3 w [x] H2 Q) .O kH:=λA H vs us z Q h mu e q=>by
 unfold kH at e;split at e
 ·split at e
  ·rename_i nj e1;split at e
   ·cases e;obtain⟨v,rfl,p⟩:=h.one;obtain⟨a,ys,rfl,h1,l1,r1⟩:=p;obtain⟨e2,ne⟩:=kF e1;subst e2;obtain⟨bs,rfl,e4,e5⟩:=kG r1;refine⟨a,bs,rfl,g_.of h1,λb hb=>(e5 b hb).1,by rw[e4];lia,λl mJ hn k2 sub=>?_⟩;have sm:=cD hn (.ext (K0 w l mJ));have kb:∀b∈bs,eV _ b=eV H b:=λb hb=>by
     rw[zq (sm _ _ (e5 b hb).1)]
    have ln:mJ.length=(aX nj).length:=by rw[←e4,←k2,aaa]
    refine⟨l,mJ,rfl,bD,by simp[*],λb hb=>⟨_,sm _ _ (e5 b (sub b hb)).1,?_⟩,λl' nX Pp hp hw=>?_⟩
    ·have:eV H b∈aX (bs.map (eV H)):=by rw[←k2];exact abi hb
     rcases BA _ _ _ this with z|z
     ·cases z
     ·rw[e4] at z;exact ne _ z
    ·have Zg:(nX.map (eV H)).Pairwise λx y=>jd y x=false:=by
      refine ach.mpr (acX (λ{x y} hx hy z=>?_) hw);rw[kb x (sub x (hp.mem_iff.mp hx)),kb y (sub y (hp.mem_iff.mp hy))] at z;exact z
     have e7:=uf ((hp.map (eV H)).trans (by rw[k2,e4];exact (aH _).symm)) Zg (my _);have Ig:=sm.trans (cD Pp (.lst (nX.map V.ref)));have na:H l'=none:=by
      cases z:H l' with
      |none=>rfl
      |some o=>rw[sm _ _ z] at Pp;cases Pp
     refine q _ _ Ig ⟨l',rfl,na,?_⟩;rw[←e7];refine cI (λb hb=>?_) ?_ Pp ?_
     ·have m:=mu b hb;obtain⟨o,z⟩:=m.ex;rw[sm b o z,←z];exact m
     ·have k3:=aav λb hb=>(kb b (sub b (hp.mem_iff.mp hb))).symm;rw[k3];refine By λb hb=>?_;have Aq:=sub b (hp.mem_iff.mp hb);rw[kb b Aq];exact⟨sm _ _ (e5 b Aq).1,(e5 b Aq).2⟩
     ·have:aaf=16777216:=rfl;rw[aaa,aaa,hp.length_eq];lia
   ·cases e
  ·cases e
 ·cases e
theorem DQ (hc:X.calm=true)(hu:X.A.units+64<abW)(ha:DA X G [e] b1 true ga)(hm:X.mg "sorted"=none)(Zh:X.mg "set"=none)(hg:Gl X "sorted":=by rfl)(Pt:Gl X "set":=by rfl)
  (he:aaN [e] X.env=(false,adM e X.env)::aaN [] X.env:=by rfl) (sO:(acy lW (aaN [] X.env)).any (·.1)=false:=by rfl)
  (Xc:aaN [.Call (.Name "set" p2) [e] [] lW] X.env=(false,adM (.Call (.Name "set" p2) [e] [] lW) X.env)::aaN [] X.env:=by rfl) (EG:(acy pos (aaN [] X.env)).any (·.1)=false:=by rfl) :
  DE X G (.Call (.Name "sorted" p1) [.Call (.Name "set" p2) [e] [] lW] [] pos) b1 .O (fi kH ga):=⟨(oM (DP hc hu) hg hm xM (jU (ik (yi hc hu) Pt Zh JQ ha.un (by decide) (by decide) he sO) n_ Xc) (by decide) (by decide) Xc EG).to λ_ _ _ h=>t9 (BB) h⟩
end
end L2
namespace L2
open Hc.Dw Hc.Ts
section
variable {pos:Pos}
def QN:R2:=λx y H Q=>∃(p:aaL) (xs:List V) (n:Int),x=.ref p/\y=.int n/\H p=some (.lst xs)/\0<=n/\n<=100000/\xs≠[]/\xs.length*n.toNat<=100000/\∀l,H l=none->Q (.ref l) (dz H l (.lst (aa_ n.toNat xs).flatten))
theorem Of:jT X (acQ .Mult) QN:=by
 intro ċ s σ H x y v u Q I rx ry h;obtain⟨p,xs,n,rfl,rfl,hp,h0,h1,Ao,hs,q⟩:=h;obtain rfl:v=Value.ref p:=rx;obtain⟨tk,rfl⟩:∃t,u=.int n t:=ry;obtain⟨_,az,n0,rv,hl,ho⟩:=I.lstM hp;have he:az.toArray.isEmpty=false:=by grind
 have sl:aaf=16777216:=rfl;refine adS (by decide) ⟨_,ho,rfl⟩ (λs'=>ae_ s' n tk) noFill_list_mul aeO acm repeat_list PySem.F.slot_int_index.lookup
  (adb acm (ae_ s n tk) aer (ael _ _) (int___rmul___int_list n tk p _ n0)
   ⟨ho,rfl,⟨_,ho,rfl⟩,adb PySem.F.slot_list_mul ⟨_,ho,rfl⟩ PySem.F.entry_list_mul (PySem.F.args_list_mul_2 _ _)
    (AutoListH.list___mul___list_int_3 p _ n0 n tk ?c0 ?c1 ?c2) ⟨ho,?_⟩⟩)
 case c0=>grind[Builtin.List.listFitsIndex]
 case c1=>rw[aaz,←hl];lia
 case c2=>rw[aaz,←hl,uv (by rw[sl];lia)];exact aaB
 rw[he,listMul_foldl];have el:(#[]:Array aao).toList=[]:=rfl;have z2:(aa_ n.toNat xs).flatten.length<=aaf:=by rw[ue,sl];lia
 exact⟨.ref _,_,I.laid (o:=.lst _) (λ_ _ e=>aak _ e) (aaq _) ⟨z2,_,0,uW rv n.toNat,by
  have:=aas s.heap (o:={cls:=Value.type "list",data:=Data.seq (aa_ n.toNat az.toArray.toList).flatten.toArray}) rfl;assumption⟩,rfl,q _ (I.hok.fresh (aaq _))⟩
noncomputable def FU:U->U->R U:=λu w=>match u,w with
 | .lst us,.int n=>if 0<=n/\n<=100000/\us.length*n.toNat<=100000/\us.isEmpty=false then .ok (.lst (aa_ n.toNat us).flatten) else .stk
 |_,_=>.stk
theorem K4:fV K QN .O FU:=λA H x y u w z Q hx hy mu e q=>by
 unfold FU at e;split at e
 ·rename_i us n;split at e
  ·rename_i c;cases e;obtain⟨a,xs,rfl,h1,l1,r1⟩:=hx;subst hy;have hl:=r1.length;refine⟨a,xs,n,rfl,rfl,h1,c.1,c.2.1,λz=>?_,by rw[←hl];exact c.2.2.1,λl hn=>?_⟩
   ·simp_all
   ·refine q _ _ (cD hn _) ⟨l,rfl,hn,cI mu (yY r1 _) hn ?_⟩;rw[ue];have:aaf=16777216:=rfl;(simp at *;lia)
  ·cases e
 ·cases e
end
section
variable {e:ab6}{tl:TE}{fA μ pos p1:Pos}{b1:Bool}{m1:Md}{g1:Ev->R (U×Ev)}
def qI (ns:List Int):Bool:=decide (ns.length<=1000000)&&ns.all λn=>decide (0<=n/\n<=1000000000)
theorem mB (ns:List Int):∀j,j<=ns.length->preSum (λi=>ns.getD i 0) j=(ns.take j).sum
 |0,_=>rfl
 |j+1,h=>by
  unfold preSum;rw[mB ns j (by lia),aaO (by lia),afi];simp[aad (show j<ns.length by lia)]
theorem yj:∀{ns:List Int},(ns.all λn=>decide (0<=n/\n<=1000000000))=true->0<=ns.sum/\ns.sum<=ns.length*1000000000
 | [],_=>by simp
 |n::ns,h=>by
  rw[ac3,aaC] at h;obtain⟨a,b⟩:=yj h.2;(simp;lia)
end
end L2
namespace L2
open Hc.Dw Hc.Ts
def Og:aao->Int×Tok
 | .int n t=>(n,t)
 |_=>(0,0)
theorem HD (h:aeg az ns):intItems (az.map Og).toArray=az.toArray/\∀i,numAt (az.map Og).toArray i=ns.getD i 0:=by
 constructor
 ·unfold intItems;rw[List.map_toArray,aat];congr 1
  induction h with
  |nil=>rfl
  |cons n t _ ih=>rw[aal,ih];rfl
 ·induction h with
  |nil=>unfold numAt;simp
  |cons n t _ ih=>
   intro i;cases i with
   |zero=>rfl
   |succ i=>
    simp_all[numAt,List.getD]
def s9:Int->List Int->Int
 |m,[]=>m
 |m,n::ns=>s9 (if m<n then n else m) ns
theorem vD (ns:List Int)(n0:Int):∀j,j<=ns.length->(n0::ns).getD (argBest (λi j=>decide ((n0::ns).getD i 0>(n0::ns).getD j 0)) j) 0=s9 n0 (ns.take j)
 |0,_=>by rfl
 |j+1,h=>by
  have ih:=vD ns n0 j (by lia);have hj:j<ns.length:=by lia
  have app:∀(l:List Int) (m x:Int),s9 m (l++[x])=if s9 m l<x then x else s9 m l:=by
   intro l
   induction l with
   |nil=>intro m x;rfl
   |cons y l ih=>intro m x;exact ih _ x
  rw[aaO hj,app,←ih];have g:(n0::ns).getD (j+1) 0=ns[j]:=by simp[aad hj]
  rw[argBest];lia
def QO (K:aam):List V->Hp->VK->Prop:=λxs H Q=>∃p n0 ns,xs=[.ref p]/\g_ K H p ((n0::ns).map V.int)/\Q (.int (s9 n0 ns)) H
theorem HF (hc:X.calm=true):eW X (.builtin "max") (QO X.K):=by
 intro ċ s σ H xs us Q I r h;obtain⟨p,n0,ns,rfl,hs,q⟩:=h;obtain⟨u,rfl,rx⟩:=i9 r;cases rx;obtain⟨az,rv,pl,_⟩:=I.list hs;have hI:=f9 rv;obtain⟨t1,t2⟩:=HD hI;have sz:(az.map Og).toArray.size=ns.length+1:=by simp[hI.length]
 have fe:=funext t2;refine max_intList (I.ok.hd hc) (by rw[t1];exact pl.isList) (by simp[*]) λv h' tk hv k=>?_;obtain⟨t,rfl⟩:=intItems_at hv;rw[sz,Nat.add_sub_cancel,fe];dsimp only;rw[vD ns n0 _ (aaq _),abj];exact⟨.int _,H,I.kept k,⟨t,rfl⟩,q⟩
def yk:List U->R U:=λus=>match us with
 | [.lst xs]=>match jr xs with
  |some (n::ns)=>.ok (.int (s9 n ns))
  |_=>.stk
 |_=>.stk
theorem K5:lT K (QO K) .S yk:=λA H vs us z Q h mu e q=>by
 unfold yk at e;split at e
 ·split at e
  ·rename_i n ns hb;cases e;obtain⟨v,rfl,p⟩:=h.one;obtain⟨a,ys,rfl,h1,l1,r1⟩:=p;rw[lu hb] at r1;rw[r1.toI] at h1;exact⟨a,n,ns,rfl,g_.of h1,q _ H (aO.refl _) (show Rp K H A _ _ from dJ)⟩
  ·cases e
 ·cases e
end L2
namespace L2
section
variable {e:ab6}{pos p2 p3 p4:Pos}{kk:Nat}{b1:Bool}{m1:Md}{g1:Ev->R (U×Ev)}
theorem K6:∀{xs:List V} {az:List aao},bf xs az->bf xs.reverse az.reverse:=by
 intro xs az h
 induction h with
 |nil=>exact .nil
 |cons r t ih=>rw[aeE,aeE];exact ih.append (.cons r .nil)
theorem FV {K:aam}{H:Hp}{A:aaL->Prop}:∀{us:List U} {vs:List V},aU K H A us vs->aU K H A us.reverse vs.reverse
 | [],_,h=>by subst h;rfl
 |u::us,_,h=>by
  obtain⟨x,r,rfl,p,q⟩:=h;rw[aeE,aeE];exact (FV q).append (aU.cons p aU.nil)
end
end L2
namespace L2
def SW (K:aam)(f:Bool->Bool):R2:=λx y H Q=>∃p xs ds dx,y=.ref p/\(g_ K H p xs\/iG K H p xs)/\gr K H dx x/\iK K H ds xs/\(∀d∈ds,fj d<=30)/\Q (.bl (f (ds.any λd=>k8 d dx))) H
open Classical in
def BC (az:List aao)(ds:List D)(dx:D)(u:aao):Bool:=decide (∃(i:Nat) (d:D),az[i]? = some u/\ds[i]? = some d/\k8 d dx=true)
open Classical in
theorem ug {ds:List D}{u:aao}:BC az ds dx u=true↔∃(i:Nat) (d:D),az[i]? = some u/\ds[i]? = some d/\k8 d dx=true:=by
 unfold BC;exact decide_eq_true_iff
theorem uh {ds:List D}(hl:az.length=ds.length):az.any (BC az ds dx)=ds.any λd=>k8 d dx:=by
 rw[abo,adW,adW];constructor
 ·rintro⟨u,_,h⟩;obtain⟨i,d,_,h2,h3⟩:=ug.mp h;exact⟨d,abq h2,h3⟩
 ·rintro⟨d,hd,h⟩;obtain⟨i,hi,e⟩:=adL.mp hd;have Rm:i<az.length:=by simp[*]
  exact⟨az[i],aaU Rm,ug.mpr ⟨i,d,aad Rm,by rw[aad hi,e],h⟩⟩
theorem pN (I:aG X ċ σ H s){A:abd}(hA:A.units+30<abW){x:V}{v:aao}(rx:aZ x v)(hx:gr X.K H dx x){ds:List D}(rv:bf xs az)(hs:iK X.K H ds xs)(hd:∀d∈ds,fj d<=30) :
  ∀u∈az,ade A s u v (BC az ds dx u):=λu hu=>by
 have l1:=rv.length;have l2:=hs.length;have at_:∀(i:Nat) (d:D),az[i]? = some u->ds[i]? = some d->ade A s u v _:=λi d h1 h2=>by
  have hi:=(aap.mp h1).1;have h3:xs[i]? = some (xs[i]'(by lia)):=aad _;obtain⟨u',g1,g2⟩:=rv.get h3;rw[h1] at g1;cases g1;exact CT I 30 d dx _ x u v A (hd d (abq h2)) hA (hs.get h2 h3) hx g2 rx
 by_cases c:∃(i:Nat) (d:D),az[i]? = some u/\ds[i]? = some d/\k8 d dx=true
 ·obtain⟨i,d,h1,h2,h3⟩:=c;have e:=ug.mpr ⟨i,d,h1,h2,h3⟩;rw[e,←h3];exact at_ i d h1 h2
 ·have e:=adI.mpr λz=>c (ug.mp z);obtain⟨i,hi,eu⟩:=adL.mp hu;have h1:az[i]? = some u:=by rw[aad hi,eu]
  have h2:ds[i]? = some (ds[i]'(by lia)):=aad _;grind
theorem K7 (hu:X.A.units+64<abW):jT X (abM .In) (SW X.K id):=by
 intro ċ s σ H x y v u Q I rx ry h;obtain⟨p,xs,ds,dx,rfl,hq,hx,hs,hd,q⟩:=h;cases ry;rcases hq with hq|hq
 ·obtain⟨az,r,pl,hz⟩:=I.list hq;refine SeqAt.in_listAt _ pl.isList (λw hw=>pN I (by show X.A.units+1+30<abW;lia) rx hx r hs hd w (by simpa using hw)) ⟨.bl _,H,I,rfl,?_⟩;rw[show az.toArray.any _=az.any (BC az ds dx) by simp,uh (by rw[←r.length,←hs.length])];exact q
 ·obtain⟨az,r,pl,hz⟩:=I.tuple hq;refine SeqAt.in_tupleAt _ pl (λw hw=>pN I (by show X.A.units+1+30<abW;lia) rx hx r hs hd w (by simpa using hw)) ⟨.bl _,H,I,rfl,?_⟩;rw[show az.toArray.any _=az.any (BC az ds dx) by simp,uh (by rw[←r.length,←hs.length])];exact q
theorem qJ (hu:X.A.units+64<abW):jT X (abM .NotIn) (SW X.K not):=by
 intro ċ s σ H x y v u Q I rx ry h;obtain⟨p,xs,ds,dx,rfl,hq,hx,hs,hd,q⟩:=h;cases ry;rcases hq with hq|hq
 ·obtain⟨az,r,pl,hz⟩:=I.list hq;refine SeqAt.notIn_listAt _ pl.isList (λw hw=>pN I (by show X.A.units+1+30<abW;lia) rx hx r hs hd w (by simpa using hw)) ⟨.bl _,H,I,rfl,?_⟩;rw[show az.toArray.any _=az.any (BC az ds dx) by simp,uh (by rw[←r.length,←hs.length])];exact q
 ·obtain⟨az,r,pl,hz⟩:=I.tuple hq;refine SeqAt.notIn_tupleAt _ pl (λw hw=>pN I (by show X.A.units+1+30<abW;lia) rx hx r hs hd w (by simpa using hw)) ⟨.bl _,H,I,rfl,?_⟩;rw[show az.toArray.any _=az.any (BC az ds dx) by simp,uh (by rw[←r.length,←hs.length])];exact q
def DR:U->Option (List U)
 | .lst us=>some us
 | .tup us=>some us
 |_=>none
def An (f:Bool->Bool):U->U->R U:=λu w=>match l9 u,(DR w).bind ke with
 |some dx,some ds=>if (ds.all λd=>decide (fj d<=30))=true then .ok (.bl (f (ds.any λd=>k8 d dx))) else .stk
 |_,_=>.stk
theorem vE {f:Bool->Bool}:fV K (SW K f) .S (An f):=λA H x y u w z Q hx hy mu e q=>by
 unfold An at e;split at e
 ·rename_i dx ds h1 h2;split at e
  ·rename_i hd;cases e;cases w with
   |lst us=>
    obtain⟨a,xs,rfl,h3,l1,r1⟩:=hy;exact⟨a,xs,ds,dx,rfl,.inl (g_.of h3),yQ hx h1,mW r1 h2,λd m=>of_decide_eq_true (aaK.mp hd d m),q _ H (aO.refl _) (show Rp K H A _ _ from jq)⟩
   |tup us=>
    obtain⟨a,xs,rfl,h3,l1,r1⟩:=hy;exact⟨a,xs,ds,dx,rfl,.inr (iG.of h3),yQ hx h1,mW r1 h2,λd m=>of_decide_eq_true (aaK.mp hd d m),q _ H (aO.refl _) (show Rp K H A _ _ from jq)⟩
   |_=>cases h2
  ·cases e
 ·cases e
end L2
namespace L2
open Hc.Dw Hc.Ts
noncomputable def SX:U->U->R Bool
 | .int a,.int b=>.ok (a==b)
 | .bl a,.bl b=>.ok (a==b)
 | .str a,.str b=>.ok (a==b)
 |_,_=>.stk
def je (f:Bool->Bool):U->U->R U:=λu w=>(SX u w).bind λb=>.ok (.bl (f b))
theorem d8:fV K ZA .S (je id):=λA H x y u w z Q hx hy mu e q=>by
 obtain⟨b,e1,e2⟩:=R.bind_ok e;unfold SX at e1;split at e1
 ·cases e1;cases e2;rw[hx.int,hy.int];refine⟨rfl,?_⟩;rw[tX];exact q _ H (aO.refl _) (show Rp K H A _ _ from jq)
 ·cases e1;cases e2;rw[hx.bl,hy.bl];refine⟨rfl,?_⟩;rw[yA];exact q _ H (aO.refl _) (show Rp K H A _ _ from jq)
 ·cases e1;cases e2;rw[hx.str,hy.str];refine⟨rfl,?_⟩;rw[tY];exact q _ H (aO.refl _) (show Rp K H A _ _ from jq)
 ·cases e1
theorem Oh:fV K ZC .S (je not):=λA H x y u w z Q hx hy mu e q=>by
 obtain⟨b,e1,e2⟩:=R.bind_ok e;unfold SX at e1;split at e1
 ·cases e1;cases e2;rw[hx.int,hy.int];refine⟨rfl,?_⟩;rw[tX];exact q _ H (aO.refl _) (show Rp K H A _ _ from jq)
 ·cases e1;cases e2;rw[hx.bl,hy.bl];refine⟨rfl,?_⟩;rw[yA];exact q _ H (aO.refl _) (show Rp K H A _ _ from jq)
 ·cases e1;cases e2;rw[hx.str,hy.str];refine⟨rfl,?_⟩;rw[tY];exact q _ H (aO.refl _) (show Rp K H A _ _ from jq)
 ·cases e1
end L2
namespace L2
def jv (P:U->V->List aaL->Prop):List U->List V->List aaL->Prop
 | [],vs,L=>vs=[]/\L=[]
 |u::us,vs,L=>∃v r L1 L2,vs=v::r/\L=L1++L2/\P u v L1/\jv P us r L2
def Dp (K:aam)(H:Hp)(A:aaL->Prop):Nat->U->V->List aaL->Prop
 |0,u,v,L=>∃a us xs,v=.ref a/\u=.lst us/\L=[a]/\H a=some (.lst xs)/\us.length<=aaf/\aU K H A us xs
 |1,u,v,L=>L=[]/\Rp K H A u v
 |n+2,u,v,L=>∃a us es M,v=.ref a/\u=.dct (es.map λp=>.tup p.1) us/\L=a::M/\fT H a es/\(es=[]->H a=some (.dK []))/\us.length<=aaf/\jv (Dp K H A n) us (es.map (·.2.2)) M
section
variable {A':aaL->Prop}
theorem jv.imp {P P':U->V->List aaL->Prop}:∀{us:List U} {vs:List V} {L:List aaL},(∀u v L',(∀b∈L',b∈L)->P u v L'->P' u v L')->jv P us vs L->jv P' us vs L
 | [],_,_,_,h=>h
 |u::us,vs,L,f,h=>by
  obtain⟨v,r,L1,L2,e1,e2,p,q⟩:=h;subst e2;exact⟨v,r,L1,L2,e1,rfl,f u v L1 (λb hb=>abn _ hb) p,jv.imp (λu v L' s=>f u v L' λb hb=>aaM _ (s b hb)) q⟩
theorem jv.length {P:U->V->List aaL->Prop}:∀{us:List U} {vs:List V} {L:List aaL},jv P us vs L->us.length=vs.length
 | [],_,_,⟨e,_⟩=>by subst e;rfl
 |u::us,_,_,⟨v,r,_,_,e,_,_,q⟩=>by subst e;rw[aaw,aaw,q.length]
theorem jv.mem {P:U->V->List aaL->Prop}:∀{us:List U} {vs:List V} {L:List aaL} {b:aaL},jv P us vs L->b∈L->∃u v L',P u v L'/\b∈L'
 | [],_,_,b,⟨_,e⟩,h=>by subst e;cases h
 |u::us,_,_,b,⟨v,r,L1,L2,_,e,p,q⟩,h=>by
  subst e;rcases aaQ.mp h with h|h
  ·exact⟨u,v,L1,p,h⟩
  ·exact q.mem h
theorem fT.mu (g:fT H a es):Mu (H a):=by
 rcases g.ob with⟨ep,q⟩|⟨_,q⟩<;>(rw[q];trivial)
theorem Dp.mu:∀{n:Nat} {u:U} {v:V} {L:List aaL} {b:aaL},Dp K H A n u v L->b∈L->Mu (H b)
 |0,u,v,L,b,h,hb=>by
  obtain⟨a,us,xs,_,_,e,q,_⟩:=h;subst e;rw[aau] at hb;subst hb;rw[q];trivial
 |1,u,v,L,b,h,hb=>by
  rw[h.1] at hb;cases hb
 |n+2,u,v,L,b,h,hb=>by
  obtain⟨a,us,es,M,_,_,e,g,_,_,al⟩:=h;subst e;rcases aaA.mp hb with rfl|hb
  ·exact g.mu
  ·obtain⟨u',v',L',p,hb⟩:=al.mem hb;exact Dp.mu p hb
theorem fT.re (g:fT H a es)(ka:H' a=H a)(t:∀b ys,H b=some (.tup ys)->H' b=some (.tup ys)):fT H' a es:=⟨by rw[ka];exact g.ob,g.nd,λe he=>(g.key e he).to t⟩
structure CA (A A':aaL->Prop)(H H':Hp):Prop where
 mu:∀b,A b->Mu (H b)
 ex:fU A H H'
 nw:∀b,A' b->A b\/H b=none
theorem CA.tup (g:CA A A' H H'):∀b ys,H b=some (.tup ys)->H' b=some (.tup ys):=λb ys q=>g.ex b _ (λz=>by have:=g.mu b z;rw[q] at this;exact this) q
theorem Dp.re (g:CA A A' H H'):∀{n:Nat} {u:U} {v:V} {L:List aaL},(∀b∈L,H' b=H b)->Dp K H A n u v L->Dp K H' A' n u v L
 |0,u,v,L,k,h=>by
  obtain⟨a,us,xs,e1,e2,e,q,l,r⟩:=h;subst e;exact⟨a,us,xs,e1,e2,rfl,by rw[k a aae];exact q,l,r.re g.mu g.ex g.nw⟩
 |1,u,v,L,k,h=>⟨h.1,h.2.re g.mu g.ex g.nw⟩
 |n+2,u,v,L,k,h=>by
  obtain⟨a,us,es,M,e1,e2,e,d,z,l,al⟩:=h;subst e;have ka:=k a aae;exact⟨a,us,es,M,e1,e2,rfl,d.re ka g.tup,(by rw[ka];exact z),l,al.imp λu v L' s p=>Dp.re g (λb hb=>k b (aai _ (s b hb))) p⟩
theorem jv.rps {P:U->V->List aaL->Prop}:∀{us:List U} {vs:List V} {L:List aaL},(∀u v L',(∀b∈L',b∈L)->P u v L'->Rp K H A' u v)->jv P us vs L->aU K H A' us vs
 | [],_,_,_,⟨e,_⟩=>by subst e;rfl
 |u::us,_,_,f,⟨v,r,L1,L2,e1,e2,p,q⟩=>by
  subst e1 e2;exact aU.cons (f u v L1 (λb hb=>abn _ hb) p) (q.rps λu v L' s=>f u v L' λb hb=>aaM _ (s b hb))
theorem fT.at (d:fT H a es)(z:es=[]->H a=some (.dK [])):yK H a (es.map λp=>.tup p.1) (es.map (·.2.2)):=by
 by_cases hz:es=[]
 ·subst hz;exact .inl ⟨[],z rfl,rfl,rfl⟩
 ·exact .inr ⟨es,hz,d,rfl,rfl⟩
theorem Dp.rp:∀{n:Nat} {u:U} {v:V} {L:List aaL},(∀b,A' b->A b/\b∉L)->Dp K H A n u v L->Rp K H A' u v
 |0,u,v,L,k,h=>by
  obtain⟨a,us,xs,e1,e2,e,q,l,r⟩:=h;subst e e2;exact⟨a,xs,e1,λz=>(k a z).2 aae,q,l,r.mono λb z=>(k b z).1⟩
 |1,u,v,L,k,h=>h.2.mono λb z=>(k b z).1
 |n+2,u,v,L,k,h=>by
  obtain⟨a,us,es,M,e1,e2,e,d,z,l,al⟩:=h;subst e e2;exact⟨a,es.map _,e1,λy=>(k a y).2 aae,d.at z,l,al.rps λu v L' s p=>Dp.rp (λb y=>⟨(k b y).1,λw=>(k b y).2 (aai _ (s b w))⟩) p⟩
structure At (K:aam)(H:Hp)(A:aaL->Prop)(n:Nat)(v:V)(L:List aaL)(m:Nat)(u':U)(v':V)(L':List aaL)(F:U->U):Prop where
 sub:∀b∈L',b∈L
 nod:L.Nodup
 nod':L'.Nodup
 dp:Dp K H A m u' v' L'
 all:Dp K H A n (F u') v L
 put:∀H' A' w L3,CA A A' H H'->(∀b∈L,b∉L'->H' b=H b)->Dp K H' A' m w v' L3->L3.Nodup->(∀b∈L',b∈L3)->(∀b∈L3,b∈L'\/H b=none)->∃L4,Dp K H' A' n (F w) v L4/\L4.Nodup/\(∀b∈L,b∈L4)/\(∀b∈L3,b∈L4)/\(∀b∈L4,b∈L3\/b∈L)
theorem At.root (h:Dp K H A n u v L)(nd:L.Nodup):At K H A n v L n u v L id:=⟨λb h=>h,nd,nd,h,h,λH' A' w L3 g k d n3 s1 s2=>⟨L3,d,n3,s1,λb hb=>hb,λb hb=>.inl hb⟩⟩
theorem Dp.ne (h:Dp K H A n u v L)(hb:b∈L):H b≠none:=λe=>by
 have:=h.mu hb;rw[e] at this;exact this
theorem CA.trans {A2:aaL->Prop}(g:CA A A' H H')(un:∀b,H' b=none->H b=none)(g':CA A' A2 H' H2):CA A A2 H H2:=
 ⟨g.mu,λb o nb e=>g'.ex b o (λz=>by rcases g.nw b z with y|y;exact nb y;lia) (g.ex b o nb e),λb z=>by
  rcases g'.nw b z with y|y
  ·exact g.nw b y
  ·exact .inr (un b y)⟩
theorem At.set {L3:List aaL}{w:U}(h:At K H A n v L m u' v' L' F)(g:CA A A' H H')(k:∀b∈L,b∉L'->H' b=H b)(un:∀b,H' b=none->H b=none)(d:Dp K H' A' m w v' L3)(n3:L3.Nodup)(s1:∀b∈L',b∈L3)(s2:∀b∈L3,b∈L'\/H b=none):∃L4,At K H' A' n v L4 m w v' L3 F/\(∀b∈L,b∈L4)/\(∀b∈L4,b∈L3\/b∈L):=by
 obtain⟨L4,d4,n4,z1,z3,z2⟩:=h.put H' A' w L3 g k d n3 s1 s2;refine⟨L4,⟨z3,n4,n3,d,d4,λH2 A2 w2 L5 g2 k2 d5 n5 t1 t2=>?_⟩,z1,z2⟩;obtain⟨L6,d6,n6,y1,y3,y2⟩:=h.put H2 A2 w2 L5 (g.trans un g2) (λb hb nb=>by
   rw[k2 b (z1 b hb) (λy=>by
    rcases s2 b y with y|y
    ·exact nb y
    ·exact h.all.ne hb y),k b hb nb]) d5 n5 (λb hb=>t1 b (s1 b hb)) (λb hb=>by
   grind)
 refine⟨L6,d6,n6,λb hb=>?_,y3,λb hb=>(y2 b hb).imp id (z1 b)⟩;rcases z2 b hb with y|y
 ·exact y3 b (t1 b y)
 ·exact y1 b y
theorem At.keep (h:At K H A n v L m u' v' L' F)(g:CA A A' H H')(k:∀b∈L,H' b=H b)(un:∀b,H' b=none->H b=none):At K H' A' n v L m u' v' L' F:=
 ⟨h.sub,h.nod,h.nod',h.dp.re g λb hb=>k b (h.sub b hb),h.all.re g k,λH2 A2 w2 L5 g2 k2 d5 n5 t1 t2=>h.put H2 A2 w2 L5 (g.trans un g2) (λb hb nb=>by rw[k2 b hb nb,k b hb]) d5 n5 t1 λb hb=>(t2 b hb).imp id (un b)⟩
theorem ui {k w:U}:∀{ks us:List U},k∉ks->ks.length=us.length->ack (λk' u=>if k'=k then w else u) ks us=us
 | [],[],_,_=>rfl
 |x::ks,y::us,h,l=>by
  rw[abp,hV (λe=>h (by rw[e];exact aae)),ui (λz=>h (aai _ z)) (by simpa using l)]
abbrev nO (es:List (List U×aaL×V)):List U:=es.map λp=>.tup p.1
theorem pO {k:List U}:U.tup k∈nO es↔k∈es.map (·.1):=by
 simp
theorem jv.find {m:Nat}{k:List U}{x:V}:∀{es:List (List U×aaL×V)} {us:List U} {M:List aaL},jv (Dp K H A m) us (es.map (·.2.2)) M->(es.map (·.1)).Nodup->M.Nodup->iL es k=some x->
  ∃u' M',fJ (nO es) us (.tup k)=some u'/\k∈es.map (·.1)/\ack (λk' u=>if k'=.tup k then u' else u) (nO es) us=us/\(∀b∈M',b∈M)/\M'.Nodup/\Dp K H A m u' x M' /\
   ∀H' A' w M3,CA A A' H H'->(∀b∈M,b∉M'->H' b=H b)->Dp K H' A' m w x M3->M3.Nodup->(∀b∈M',b∈M3)->(∀b∈M3,b∈M'\/H b=none)->
    ∃M4,jv (Dp K H' A' m) (ack (λk' u=>if k'=.tup k then w else u) (nO es) us) (es.map (·.2.2)) M4/\M4.Nodup/\(∀b∈M,b∈M4)/\(∀b∈M3,b∈M4)/\(∀b∈M4,b∈M3\/b∈M)
 | [],_,_,_,_,_,e=>by cases e
 |e::es,us,M,al,nd,nM,hv=>by
  cases us with
  |nil=>obtain⟨z,_⟩:=al;cases z
  |cons u us=>
   obtain⟨v,r,L1,L2,e1,e2,p,q⟩:=al;cases e1;subst e2;rw[aal] at nd;obtain⟨XN,nd2⟩:=abe.mp nd;obtain⟨n1,n2,n3⟩:=abO.mp nM;have ql:(nO es).length=us.length:=by rw[q.length,aaa,aaa]
   unfold iL at hv;rw[acV] at hv;unfold nO;rw[aal];unfold fJ;by_cases c:e.1=k
   ·rw[hG c] at hv;cases hv;have nk:=λz=>XN (by rw[c];exact pO.mp z);refine⟨u,L1,by lia,by rw[←c];exact aae,by rw[abp,ite_self];exact congrArg _ (ui nk ql),λb hb=>abn _ hb,n1,p,λH' A' w M3 g kk d5 n5 t1 t2=>?_⟩;rw[abp,hZ (by rw[c]),ui nk ql];have dj:=λb hb z=>n3 b z b hb rfl;refine⟨M3++L2,⟨_,_,M3,L2,rfl,rfl,d5,q.imp λu v L' s y=>y.re g λb hb=>kk b (aaM _ (s b hb)) (dj b (s b hb))⟩,?_,λb hb=>?_,λb hb=>abn _ hb,λb hb=>?_⟩
    ·refine abO.mpr ⟨n5,n2,λa ha b hb eq=>?_⟩;subst eq;rcases t2 a ha with y|y
     ·exact dj a hb y
     ·obtain⟨_,_,_,z1,z2⟩:=q.mem hb;exact z1.ne z2 y
    ·grind
    grind
   ·rw[hJ c] at hv;obtain⟨u',M',y1,y2,y3,y4,y5,y6,y7⟩:=jv.find q nd2 n2 hv;have c' :=λz=>c (lj.mp z);have dj:=λb hb z=>n3 b hb b z rfl;refine⟨u',M',by rw[hV c'];exact y1,aai _ y2,by simp[*],λb hb=>aaM _ (y4 b hb),y5,y6,λH' A' w M3 g kk d5 n5 t1 t2=>?_⟩;obtain⟨M4,z1,z2,z3,z4,z5⟩:=y7 H' A' w M3 g (λb hb=>kk b (aaM _ hb)) d5 n5 t1 t2;rw[abp,hV c'];refine⟨L1++M4,⟨_,_,L1,M4,rfl,rfl,p.re g λb hb=>kk b (abn _ hb) λz=>dj b hb (y4 b z),z1⟩,?_,λb hb=>?_,λb hb=>aaM _ (z4 b hb),λb hb=>?_⟩
    ·refine abO.mpr ⟨n1,z2,λa ha b hb eq=>?_⟩;subst eq;rcases z5 a hb with y|y
     ·rcases t2 a y with x|x
      ·exact dj a ha (y4 a x)
      ·exact p.ne ha x
     ·exact dj a ha y
    ·grind
    grind
theorem At.child {M:List aaL}{k:List U}{x:V}(h:At K H A n v L (m+2) (.dct (nO es) us) (.ref a) (a::M) F)(d:fT H a es)(z:es=[]->H a=some (.dK []))(l:us.length<=aaf)(al:jv (Dp K H A m) us (es.map (·.2.2)) M)(hv:iL es k=some x) :
  ∃u' L2,fJ (nO es) us (.tup k)=some u'/\F (.dct (er (nO es) (.tup k)) (dP (nO es) us (.tup k) u'))=F (.dct (nO es) us)/\At K H A n v L m u' x L2 (λw=>F (.dct (er (nO es) (.tup k)) (dP (nO es) us (.tup k) w))):=by
 obtain⟨na,nM⟩:=abe.mp h.nod';obtain⟨u',M',y1,y2,y3,y4,y5,y6,y7⟩:=al.find d.nd nM hv;have hk:=pO.mpr y2;have e1:er _ _=nO es:=hZ hk;have e2:∀w,dP _ us _ w=ack _ _ us:=λw=>hZ hk;have e3:F (.dct (er (nO es) (.tup k)) (dP (nO es) us (.tup k) u'))=F (.dct (nO es) us):=by rw[e1,e2,y3]
 refine⟨u',M',y1,e3,⟨λb hb=>h.sub b (aai _ (y4 b hb)),h.nod,y5,y6,by rw[e3];exact h.all,λH' A' w L3 g kk d5 n5 t1 t2=>?_⟩⟩;have ka:=kk a (h.sub a aae) λq=>na (y4 a q);obtain⟨M4,z1,z2,z3,z4,z5⟩:=y7 H' A' w L3 g (λb hb nb=>kk b (h.sub b (aai _ hb)) nb) d5 n5 t1 t2;have n4:=abe.mpr ⟨λq=>by
  rcases z5 a q with y|y
  ·rcases t2 a y with x|x
   ·exact na (y4 a x)
   ·exact h.dp.ne aae x
  ·exact na y,z2⟩
 obtain⟨L4,w1,w2,w3,w4,w5⟩:=h.put H' A' (.dct _ (dP _ us _ w)) _ g (λb hb nb=>kk b hb λq=>nb (aai _ (y4 b q)))
  ⟨a,_,es,M4,rfl,rfl,rfl,d.re ka g.tup,(by rw[ka];exact z),by rw[e2,ad1];grind,by rw[e2];exact z1⟩ n4 (λb hb=>by
   rcases aaA.mp hb with rfl|hb
   ·exact aae
   ·exact aai _ (z3 b hb)) (λb hb=>by
   rcases aaA.mp hb with rfl|hb
   ·exact .inl aae
   ·rcases z5 b hb with y|y
    ·exact (t2 b y).imp (λq=>aai _ (y4 b q)) id
    ·exact .inl (aai _ y))
 refine⟨L4,by rw[e1];exact w1,w2,w3,λb hb=>w4 b (aai _ (z4 b hb)),λb hb=>?_⟩;rcases w5 b hb with y|y
 ·rcases aaA.mp y with rfl|y
  ·exact .inr (h.sub b aae)
  ·rcases z5 b y with x|x
   ·exact .inl x
   ·exact .inr (h.sub b (aai _ x))
 ·exact .inr y
theorem jv.snoc {P:U->V->List aaL->Prop}(p:P u v L'):∀{us:List U} {vs:List V} {L:List aaL},jv P us vs L->jv P (us++[u]) (vs++[v]) (L++L')
 | [],_,_,⟨e1,e2⟩=>by subst e1 e2;exact⟨v,[],L',[],rfl,(abG _).symm,p,rfl,rfl⟩
 |w::us,_,_,⟨x,r,L1,L2,e1,e2,q,al⟩=>by subst e1 e2;exact⟨x,r++[v],L1,L2++L',rfl,acg _ _ _,q,al.snoc p⟩
theorem vF {k:List U}(h:iL es k=none):k∉es.map (·.1):=λz=>by
 obtain⟨e,he,rfl⟩:=aan.mp z;unfold iL at h;rw[Option.map_eq_none_iff,List.find?_eq_none] at h;exact h e he (hG rfl)
theorem HG {k:List U}(h:iL es k=none):iL (es++[(k,b,v)]) k=some v:=by
 unfold iL at h ⊢;rw[Option.map_eq_none_iff] at h;rw[List.find?_append,h];rw[acV,hG rfl];rfl
theorem HH {k w:U}(h:k∉ks)(l:ks.length=us.length):ack (λk' u=>if k'=k then w else u) (ks++[k]) (us++[u])=us++[w]:=by
 rw[List.zipWith_append l,ui h l];simp
theorem pP {k:U}:∀{ks us:List U},k∉ks->fJ ks us k=none
 | [],us,_=>by rfl
 |x::ks,[],_=>by rfl
 |x::ks,y::us,h=>by unfold fJ;rw[hV (λe=>h (by rw[e];exact aae))];exact pP λz=>h (aai _ z)
theorem ym {k u:U}:∀{ks us:List U},k∉ks->ks.length=us.length->fJ (ks++[k]) (us++[u]) k=some u
 | [],[],_,_=>by show fJ [k] [u] k=_;unfold fJ;rw[hZ rfl]
 |x::ks,y::us,h,l=>by show fJ (x::(ks++[k])) (y::(us++[u])) k=_;unfold fJ;rw[hV (λe=>h (by rw[e];exact aae))];exact ym (λz=>h (aai _ z)) (by simpa using l)
theorem At.new {H0:Hp}{c:aaL}{M:List aaL}{k:List U}{u0:U}(h:At K H0 A n v L (m+2) (.dct (nO es) us) (.ref a) (a::M) F)(d:fT H0 a es)(l:us.length<aaf)(al:jv (Dp K H0 A m) us (es.map (·.2.2)) M)(mu:∀b,A b->Mu (H0 b))(aa:∀b∈L,A b)(s0:aO H0 H)(nc:H0 c=none)(kb:wO H k b)(hv:iL es k=none)(h':H'=dz H a (DN a ep (j9 es k b (.ref c))))(dc:∀H',H' c=H c->(∀b,Mu (H b)\/H' b=H b)->Dp K H' (λb=>A b\/b=c) m u0 (.ref c) [c]) :
  ∃L4 L2,fJ (nO es) us (.tup k)=none/\At K H' (λb=>A b\/b=c) n v L4 m u0 (.ref c) L2 (λw=>F (.dct (er (nO es) (.tup k)) (dP (nO es) us (.tup k) w)))/\(∀b∈L,b∈L4)/\(∀b∈L4,b∈L\/b=c)/\CA A (λb=>A b\/b=c) H0 H':=by
 have nk:=vF hv;have Xd:=λz=>nk (pO.mp z);have ll:(nO es).length=us.length:=by rw[al.length,aaa,aaa]
 have pe:j9 es k b (.ref c)=es++[(k,b,.ref c)]:=by unfold j9;rw[hv];rfl
 rw[pe] at h';have aA:=aa a (h.sub a aae);have ha:H' a=some (DN a ep (es++[(k,b,.ref c)])):=by rw[h'];unfold dz;rw[hZ rfl]
 have hb:∀b,b≠a->H' b=H b:=λb nb=>by simp_all[dz,hV]
 have ca:c≠a:=λe=>by
  have:=mu a aA;rw[←e,nc] at this;exact this
 have cM:=λz=>h.all.ne (h.sub c (aai _ z)) nc;obtain⟨na,nM⟩:=abe.mp h.nod';have g:CA A (λb=>A b\/b=c) H0 H':=⟨mu,λb o nb e=>by rw[hb b (λz=>nb (z▸aA))];exact s0 b o e,λb z=>z.imp id λe=>by lia⟩;have un:∀b,H' b=none->H0 b=none:=λx e=>by
  by_cases xa:x=a
  ·lia
  ·rw[hb x xa] at e;cases q:H0 x with
   |none=>rfl
   |some o=>rw[s0 x o q] at e;cases e
 have kL:∀b∈L,b≠a->H' b=H0 b:=λx hx xa=>by
  rw[hb x xa];cases q:H0 x with
  |none=>exact absurd q (h.all.ne hx)
  |some o=>exact s0 x o q
 have d2:fT H' a _:=⟨.inl ⟨ep,ha⟩,by
  rw[aaD,abO];refine⟨d.nd,abE _ _,λx hx y hy=>?_⟩;grind,λe he=>by
  rcases aaQ.mp he with he|he
  ·exact (d.key e he).to g.tup
  ·rw[aau] at he;subst he;refine kb.to λx ys q=>?_;rw[hb x (λz=>?_)]
   ·exact q
   ·have:=mu a aA;obtain⟨o,e⟩:=this.ex;rw[e] at this;rw[z,s0 a o e] at q;cases q;exact this⟩
 have em:(es++[(k,b,V.ref c)]).map (·.2.2)=es.map (·.2.2)++[.ref c]:=by rw[aaD];rfl
 have ek:nO (es++[(k,b,V.ref c)])=nO es++[.tup k]:=by simp
 have XQ:jv (Dp K H' (λb=>A b\/b=c) m) (us++[u0]) ((es++[(k,b,V.ref c)]).map (·.2.2)) (M++[c]):=by
  rw[em];refine jv.snoc (dc H' (hb c ca) λx=>?_) (al.imp λu v L' s p=>p.re g λx hx=>kL x (h.sub x (aai _ (s x hx))) λe=>na (e▸s x hx));by_cases xa:x=a
  ·refine .inl ?_;have:=mu a aA;obtain⟨o,e⟩:=this.ex;rw[xa,s0 a o e,←e];exact this
  ·exact .inr (hb x xa)
 obtain⟨L4,h4,z1,z2⟩:=h.set g (λx hx nx=>kL x hx λe=>nx (by rw[e];exact aae)) un
  ⟨a,_,_,_,rfl,rfl,rfl,d2,(λe=>absurd e (by simp)),by rw[aay];exact l,XQ⟩
  (abe.mpr ⟨λz=>by
   grind,abO.mpr ⟨nM,abE _ _,λx hx y hy e=>by
    grind⟩⟩)
  (λx hx=>by
   grind)
  (λx hx=>by
   grind)
 obtain⟨u',L2,y1,y2,y3⟩:=h4.child d2 (λe=>absurd e (by simp)) (by rw[aay];exact l) XQ (HG hv);rw[ek,ym Xd ll] at y1;cases y1;have e1:er _ _=nO es++[.tup k]:=hV Xd;have e2:∀w,dP _ us _ w=us++[w]:=λw=>hV Xd;have e3:(λw=>F (.dct (er (nO (es++[(k,b,V.ref c)])) (.tup k)) (dP (nO (es++[(k,b,V.ref c)])) (us++[u0]) (.tup k) w)))=(λw=>F (.dct (er (nO es) (.tup k)) (dP (nO es) us (.tup k) w))):=by
  funext w;have m:U.tup k∈nO es++[.tup k]:=aaM _ aae;rw[ek,show er _ _=nO es++[.tup k] from hZ m,show dP _ _ _ w=_ from hZ m,HH Xd ll,e1,e2]
 rw[e3] at y3;refine⟨L4,L2,pP Xd,y3,z1,λx hx=>?_,g⟩;rcases z2 x hx with y|y
 ·rcases aaA.mp y with y|y
  ·rw[y];exact .inl (h.sub a aae)
  ·rcases aaQ.mp y with y|y
   ·exact .inl (h.sub x (aai _ y))
   ·rw[aau] at y;exact .inr y
 ·exact .inl y
end
end L2
namespace L2
open Classical in
def Pkg.hx (Z:Pkg)(H:Hp)(L:List aaL):Pkg:=⟨λb=>Z.A0 b\/b∈L,λb=>if b∈L then H b else Z.B b,Z.a0⟩
section
variable {A':aaL->Prop}{ε:Ev}{ζ:St}
theorem sI (h:b∈L):(Z.hx H L).B b=H b:=hZ h
theorem du (h:b∉L):(Z.hx H L).B b=Z.B b:=hV h
structure m5 (K:aam)(G:Gm)(Z:Pkg)(A:aaL->Prop)(ρ:Ev)(σ:St)(H:Hp)(i n:Nat)(u:U)(v:V)(L:List aaL):Prop where
 at_:σ[i]? = some (some v)
 nod:L.Nodup
 fr:∀b∈L,Z.B b=none/\¬Z.A0 b
 dp:Dp K H A n u v L
 rel:dh K G (Z.hx H L) A (ρ.set i none) σ H
theorem m5.inA (h:m5 K G Z A ρ σ H i n u v L)(hb:b∈L):A b:=h.rel.sup b (.inr hb)
theorem Oi (h:∀b∈L,H' b=H b):Z.hx H' L=Z.hx H L:=by
 simp_all[Pkg.hx,hZ,hV]
theorem m5.kept (h:m5 K G Z A ρ σ H i n u v L)(s:aO H H'):∀b∈L,H' b=H b:=λb hb=>by
 cases q:H b with
 |none=>exact absurd q (h.dp.ne hb)
 |some o=>exact s b o q
def mC (m:∀b,A b->Mu (H b))(s:aO H H'):CA A A H H':=⟨m,fU.same s,λb z=>.inl z⟩
theorem FW (s:aO H H'):∀b,H' b=none->H b=none:=λb e=>by
 cases q:H b with
 |none=>rfl
 |some o=>rw[s b o q] at e;cases e
theorem m5.same (h:m5 K G Z A ρ σ H i n u v L)(s:aO H H'):m5 K G Z A ρ σ H' i n u v L:=
 ⟨h.at_,h.nod,h.fr,h.dp.re (mC h.rel.mu s) (h.kept s),by rw[Oi (h.kept s)];exact h.rel.same s⟩
theorem m5.put (h:m5 K G Z A ρ σ H i n u v L)(g:CA A A' H H')(aa:∀b,A b->A' b)(k:∀b,b∉L'->H b≠none->H' b=H b)(nd:L'.Nodup)(s1:∀b∈L,b∈L')(s2:∀b∈L',b∈L\/H b=none)(ia:∀b∈L',A' b)(oa:∀b,A' b->A b\/b∈L')
  (d:Dp K H' A' n u' v L') (e:ε.set i none=ρ.set i none):m5 K G Z A' ε σ H' i n u' v L':=by
 have Β:∀b,A b->b∉L->b∉L':=λb ha nb z=>by
  rcases s2 b z with y|y
  ·exact nb y
  ·have:=h.rel.mu b ha;rw[y] at this;exact this
 have ne:∀b,A b->H b≠none:=λb ha e=>by
  have:=h.rel.mu b ha;rw[e] at this;exact this
 have nL:∀b,A b->(Z.hx H L).B b=none->b∉L:=λb ha e z=>by
  rw[sI z] at e;exact ne b ha e
 refine⟨h.at_,nd,λb hb=>?_,d,?_⟩
 ·rcases s2 b hb with y|y
  ·exact h.fr b y
  ·refine⟨?_,λz=>ne b (h.rel.sup b (.inl z)) y⟩;cases q:Z.B b with
   |none=>rfl
   |some o=>
    by_cases c:b∈L
    ·exact absurd y (h.dp.ne c)
    ·have:=h.rel.bas b o (by rw[du c];exact q);lia
 ·rw[e];exact {
   slot:=λj w hj=>by
    obtain⟨x,x1,x2⟩:=h.rel.slot j w hj;refine⟨x,x1,?_⟩;by_cases c:G.is j=true
    ·rw[hZ c] at x2 ⊢;obtain⟨a,e1,e2,e3,e4,e5⟩:=x2;have na:=nL a e2 e3;have Zi:=Β a e2 na;refine⟨a,e1,aa a e2,?_,e4.imp (λy z=>y (z.imp id λq=>absurd q Zi)) id,e5.re g.mu g.ex g.nw λo w=>?_⟩
     ·rw[du Zi];rw[du na] at e3;exact e3
     grind
    ·rw[hV c] at x2 ⊢;exact x2.re g.mu g.ex g.nw
   dis:=h.rel.dis
   mu:=λb z=>by
    by_cases c:b∈L'
    ·exact d.mu c
    ·rcases oa b z with y|y
     ·rw[k b c (ne b y)];exact h.rel.mu b y
     lia
   sup:=λb z=>by
    rcases z with z|z
    ·exact aa b (h.rel.sup b (.inl z))
    ·exact ia b z
   out:=λb z=>by
    by_cases c:b∈L'
    ·exact .inl (.inr c)
    ·rcases oa b z with y|y
     ·rcases h.rel.out b y with q|q
      ·rcases q with q|q
       ·exact .inl (.inl q)
       ·exact absurd (s1 b q) c
      grind[du]
     lia
   bas:=λb o z=>by
    by_cases c:b∈L'
    ·rw[sI c] at z;exact z
    ·rw[du c] at z;have cL:=λy=>c (s1 b y);have:=h.rel.bas b o (by rw[du cL];exact z);grind
   io0:=h.rel.io0
   len:=h.rel.len}
theorem dh.hid (q:dh K G Z A ρ σ H)(c:G.is i=true)(hi:G.io=true->i≠0)(h:ρ[i]? = some (some (.dct [] []))):∃a,m5 K G Z A ρ σ H i (n+2) (.dct [] []) (.ref a) [a]:=by
 obtain⟨a,h1,h2,h3,h4,h5⟩:=q.own c h;have na:¬Z.A0 a:=by
  lia
 have hk:H a=some (.dK []):=by
  obtain⟨xs,d,_⟩:=h5;rcases d with⟨bw,d1,d2,_⟩|⟨es,d0,_,d2,_⟩
  ·grind
  grind
 have ne:∀j w b,i≠j->G.is j=true->ρ[j]? = some _->σ[j]? = some (some _)->b≠a:=λj w b n1 cj e1 e2 e=>by
  subst e;exact q.dis i j _ w b c cj n1 h e1 h1 e2
 refine⟨a,h1,abE _ _,λb hb=>?_,⟨a,[],[],[],rfl,rfl,rfl,⟨.inr ⟨rfl,hk⟩,ab1,(λe he=>nomatch he)⟩,λ_=>hk,abU _,rfl,rfl⟩,?_⟩
 ·grind
 ·exact {
   slot:=λj w hj=>by
    rcases dR hj with⟨rfl,e⟩|⟨n1,e⟩
    ·cases e
    ·obtain⟨x,x1,x2⟩:=q.slot j w e;refine⟨x,x1,?_⟩;by_cases cj:G.is j=true
     ·rw[hZ cj] at x2 ⊢;obtain⟨b,e1,e2,e3,e4,e5⟩:=x2;subst e1;have nb:=ne j w b n1 cj e x1;have nb' :=λz=>nb (aau.mp z);exact⟨b,rfl,e2,by rw[du nb'];exact e3,e4.imp (λy z=>y (z.elim id λq=>absurd q nb')) id,e5⟩
     ·rw[hV cj] at x2 ⊢;exact x2
   dis:=(q.drop i).dis
   mu:=q.mu
   sup:=λb z=>by
    rcases z with z|z
    ·exact q.sup b z
    grind
   out:=λb z=>by
    by_cases y:b∈[a]
    ·exact .inl (.inr y)
    ·exact (q.out b z).imp (λw=>.inl w) λw=>by rw[du y];exact w
   bas:=λb o z=>by
    by_cases y:b∈[a]
    ·rw[sI y] at z;exact z
    ·rw[du y] at z;exact q.bas b o z
   io0:=q.io0
   len:=by rw[abu];exact q.len}
theorem m5.un (h:m5 K G Z A ρ σ H i (n+2) u v L)(c:G.is i=true)(hu:ρ[i]? = some (some u)):dh K G Z (λb=>A b/\(b∈L->v=.ref b)) ρ σ H:=by
 obtain⟨a,us,es,M,e1,e2,e3,d,z,l,al⟩:=id h.dp;subst e1 e2 e3;obtain⟨na,nM⟩:=abe.mp h.nod;have ha:a∈a::M:=aae;have nL:∀b,A b->(Z.hx H _).B b=none->b∉a::M:=λb hA e y=>by
  rw[sI y] at e;exact h.dp.ne y e
 have av:∀b,(A b/\(b∈a::M->V.ref a=.ref b))->A b/\b∉M:=λb y=>⟨y.1,λw=>by
  have:=y.2 (aai _ w);cases this;exact na w⟩
 have Ag:∀j w,i≠j->ρ[j]? = some (some w)->(ρ.set i none)[j]? = some _:=λj w n1 e=>by rw[aaV n1];exact e
 exact {
  slot:=λj w hj=>by
   by_cases n1:i=j
   ·subst n1;rw[hu] at hj;cases hj;refine⟨.ref a,h.at_,?_⟩;rw[hZ c];refine⟨a,rfl,⟨h.inA ha,λ_=>rfl⟩,(h.fr a ha).1,.inl (h.fr a ha).2,?_⟩;exact⟨es.map _,d.at z,l,al.rps λu v L' s p=>Dp.rp (λb y=>⟨y.1,λw=>(av b y).2 (s b w)⟩) p⟩
   ·obtain⟨x,x1,x2⟩:=h.rel.slot j w (Ag j w n1 hj);refine⟨x,x1,?_⟩;by_cases cj:G.is j=true
    ·rw[hZ cj] at x2 ⊢;obtain⟨b,e1,e2,e3,e4,e5⟩:=x2;have nb:=nL b e2 e3;exact⟨b,e1,⟨e2,λy=>absurd y nb⟩,by rw[du nb] at e3;exact e3,e4.imp (λy w=>y (.inl w)) id,e5.mono λb y=>y.1⟩
    ·rw[hV cj] at x2 ⊢;exact x2.mono λb y=>y.1
  dis:=λj k w w' b cj ck n1 hj hk sj sk=>by
   have key:∀k w',G.is k=true->i≠k->ρ[k]? = some _->σ[k]? ≠ some (some (.ref a)):=λk w' ck n2 e y=>by
    obtain⟨b,x1,x2,x3,_⟩:=h.rel.own ck (Ag k w' n2 e);rw[x1] at y;cases y;exact nL a x2 x3 ha
   by_cases n2:i=j
   ·subst n2;rw[h.at_] at sj;cases sj;exact key k w' ck n1 hk sk
   ·by_cases n3:i=k
    ·subst n3;rw[h.at_] at sk;cases sk;exact key j w cj n2 hj sj
    ·exact h.rel.dis j k w w' b cj ck n1 (Ag j w n2 hj) (Ag k w' n3 hk) sj sk
  mu:=λb y=>h.rel.mu b y.1
  sup:=λb y=>⟨h.rel.sup b (.inl y),λw=>absurd y (h.fr b w).2⟩
  out:=λb y=>by
   by_cases w:b∈a::M
   ·exact .inr (h.fr b w).1
   ·rcases h.rel.out b y.1 with q|q
    ·exact .inl (q.elim id λx=>absurd x w)
    ·rw[du w] at q;exact .inr q
  bas:=λb o y=>by
   have w:b∉a::M:=λx=>by rw[(h.fr b x).1] at y;cases y
   exact h.rel.bas b o (by rw[du w];exact y)
  io0:=h.rel.io0
  len:=by have:=h.rel.len;rw[abu] at this;exact this}
theorem dh.pkg {Z':Pkg}(q:dh K G Z A ρ σ H)(e0:Z'.a0=Z.a0)(e1:∀b,Z'.A0 b↔Z.A0 b)(hB:∀b,A b->Z.B b=none->Z'.B b=none)(bas:∀b o,Z'.B b=some o->H b=some o):dh K G Z' A ρ σ H where
 slot:=λj w hj=>by
  obtain⟨x,x1,x2⟩:=q.slot j w hj;refine⟨x,x1,?_⟩;by_cases c:G.is j=true
  ·rw[hZ c] at x2 ⊢;obtain⟨b,Cu,e2,e3,e4,e5⟩:=x2;exact⟨b,Cu,e2,hB b e2 e3,e4.imp (λy z=>y ((e1 b).mp z)) id,e5⟩
  ·rw[hV c] at x2 ⊢;exact x2
 dis:=q.dis
 mu:=q.mu
 sup:=λb z=>q.sup b ((e1 b).mp z)
 out:=λb z=>(q.out b z).imp (λy=>(e1 b).mpr y) (hB b z)
 bas:=bas
 io0:=λz=>by rw[e0];exact q.io0 z
 len:=q.len
theorem m5.lp (h:m5 K G Z A ρ σ H i n u v L):m5 K G (Z.lp A H) A ρ σ H i n u v L:=
 ⟨h.at_,h.nod,λb hb=>⟨mT (h.inA hb) (h.fr b hb).1,(h.fr b hb).2⟩,h.dp,h.rel.pkg rfl (λb=>afI) (λb ha e=>by
  by_cases c:b∈L
  ·rw[sI c] at e ⊢;exact e
  ·rw[du c] at e ⊢;exact mT ha e) λb o e=>by
  grind[sI,du,mT,jX]⟩
theorem QP (h:m5 K G Z A ρ σ H i n u v L)(e:(Z.lp A H).B b=none):Z.B b=none:=by
 rcases uI e with y|y
 ·exact y.2
 ·cases q:Z.B b with
  |none=>rfl
  |some o=>
   have c:b∉L:=λz=>by rw[(h.fr b z).1] at q;cases q
   have:=h.rel.bas b o (by rw[du c];exact q);lia
theorem m5.unlp (h:m5 K G Z A ρ σ H i n u v L)(h':m5 K G (Z.lp A H) A' ε ζ H' i n u' v' L'):m5 K G Z A' ε ζ H' i n u' v' L' :=
 ⟨h'.at_,h'.nod,λb hb=>⟨QP h (h'.fr b hb).1,(h'.fr b hb).2⟩,h'.dp,h'.rel.pkg rfl (λb=>afI) (λb ha e=>by
  by_cases c:b∈L'
  ·rw[sI c] at e ⊢;exact e
  ·rw[du c] at e ⊢;exact QP h e) λb o e=>by
  by_cases c:b∈L'
  ·rw[sI c] at e;exact e
  ·rw[du c] at e;refine h'.rel.bas b o ?_;rw[du c,jX (λy=>by lia)];have cL:b∉L:=λz=>by rw[(h.fr b z).1] at e;cases e
   exact h.rel.bas b o (by rw[du cL];exact e)⟩
theorem m5.ext (h:m5 K G Z A ρ σ H i n u v L)(h':m5 K G (Z.lp A H) A' ε ζ H' i n u' v' L'):fU A H H'/\∀b,A' b->A b\/H b=none:=by
 refine⟨λb o nb e=>?_,λb z=>?_⟩
 ·have lb:(Z.lp A H).B b=some o:=by rw[jX (λy=>nb y.1)];exact e
  have c:b∉L':=λy=>by rw[(h'.fr b y).1] at lb;cases lb
  exact h'.rel.bas b o (by rw[du c];exact lb)
 ·have f:(Z.lp A H).B b=none->A b\/H b=none:=λy=>(uI y).imp (λw=>w.1) id;rcases h'.rel.out b z with y|y
  ·rcases y with y|y
   ·exact .inl (h.rel.sup b (.inl y))
   ·exact f (h'.fr b y).1
  ·by_cases c:b∈L'
   ·exact f (h'.fr b c).1
   ·rw[du c] at y;exact f y
def pQ (K:aam)(G:Gm)(Z:Pkg)(i n:Nat):SR->n9->Prop
 | .nx ε,D=>∀A' ζ H' u' v' L',m5 K G Z A' ε ζ H' i n u' v' L'->ε[i]? = some (some u')->D.nx ζ H'
 | .bk ε,D=>∀A' ζ H' u' v' L',m5 K G Z A' ε ζ H' i n u' v' L'->ε[i]? = some (some u')->D.bk ζ H'
 | .ct ε,D=>∀A' ζ H' u' v' L',m5 K G Z A' ε ζ H' i n u' v' L'->ε[i]? = some (some u')->D.ct ζ H'
 |_,_=>False
def ZX (K:aam)(G:Gm)(i n:Nat)(g:Ev->SR):TS:=λD σ H=>∃Z A ρ u v L,m5 K G Z A ρ σ H i n u v L/\ρ[i]? = some (some u)/\pQ K G Z i n (g ρ) D
theorem pQ.lp (h:m5 K G Z A ρ σ H i n u v L){r:SR}{D:n9}(f:pQ K G Z i n r D):pQ K G (Z.lp A H) i n r D:=by
 cases r with
 |nx=>exact λA' ζ H' u' v' L' h'=>f A' ζ H' u' v' L' (h.unlp h')
 |bk=>exact λA' ζ H' u' v' L' h'=>f A' ζ H' u' v' L' (h.unlp h')
 |ct=>exact λA' ζ H' u' v' L' h'=>f A' ζ H' u' v' L' (h.unlp h')
 |rt=>exact f.elim
 |exc=>exact f.elim
 |stk=>exact f.elim
theorem pQ.of {α:Type}{x:R α}{k:α->SR}{D:n9}(f:pQ K G Z i n (SR.of x k) D):∃a,x=.ok a/\pQ K G Z i n (k a) D:=by
 cases x with
 |ok a=>exact⟨a,rfl,f⟩
 |exc=>exact f.elim
 |stk=>exact f.elim
end
structure DD (X:Cx)(G:Gm)(i n:Nat)(st:adN)(g:Ev->SR):Prop where
 un:PS X st (ZX X.K G i n g)
structure SY (X:Cx)(G:Gm)(i n:Nat)(st:List adN)(g:Ev->SR):Prop where
 un:wY X st (ZX X.K G i n g)
section
variable {e a b c o f:ab6}{rest:List adN}{es:List ab6}{pos fA μ:Pos}{b1 b2:Bool}{m1 m2 m:Md}{g1 g2:Ev->R (U×Ev)}{h1:Ev->R (Bool×Ev)}{s1 s2:Ev->SR}
theorem Oj:SY X G i n [] bU:=⟨EN.to λD σ H ⟨Z,A,ρ,u,v,L,h,hu,f⟩=>f A σ H u v L h hu⟩
def FX (h:DD X G i n st s1):SY X G i n [st] s1:=⟨EO h.un⟩
noncomputable def DV (i:Nat)(sg:U->Ev->R Ev)(s:Ev->SR):List U->Ev->SR
 | [],ρ=>.nx ρ
 |u::us,ρ=>SR.of (sg u (ρ.set i none)) λη=>match s (η.set i (ρ[i]?.getD none)) with
   | .nx ν=>DV i sg s us ν
   | .ct ν=>DV i sg s us ν
   | .bk ν=>.nx ν
   |r=>r
def yn (i:Nat)(gi:Ev->R (List U×Ev))(sg:U->Ev->R Ev)(s:Ev->SR):Ev->SR:=λρ=>SR.of (gi (ρ.set i none)) λx=>DV i sg s x.1 ρ
theorem S0 {gi:Ev->R (List U×Ev)}(hp:afX (aaX X.prog X.w) X.A X.env X.xe)(hc:X.calm=true)(hi:DI X G tg iter false false gi)(hg:DG X G tg sg)(hb:SY X G i n body s1)(ci:G.is i=true:=by rfl)(hs:∀x,ab3 iter X.env x=pure x:=by intro _;rfl):DD X G i n (.For tg iter body [] pos) (yn i gi sg s1):=⟨(E2 hp hc hi.un hg.un hb.un hs).to λD σ H θ=>by
 obtain⟨Z,A,ρ,u,v,L,h,hu,f⟩:=θ;obtain⟨⟨us,η⟩,e1,f⟩:=f.of;refine⟨Z.hx H L,A,ρ.set i none,h.rel,?_⟩;rw[e1];intro J H1 q1 x1 Cs wk;have h1:=h.same (Cs rfl).2;obtain⟨hz,wk⟩:=wk;refine⟨λj k σ H=>j+k=us.length/\∃A' ε u' v' L',m5 X.K G _ A' ε σ H i n u' v' L'/\ε[i]? = some (some u')/\pQ X.K G _ i n (DV i sg s1 (us.drop j) ε) D,⟨us.length,by lia,A,ρ,u,v,L,h1.lp,hu,by exact f.lp h1⟩,?_⟩;rintro j k σ H ⟨hk,A',ε,u',v',L',h',eO,f'⟩;obtain⟨ex,nw⟩:=h1.ext h';obtain⟨w1,w2⟩:=wk H A' (by exact ex) nw;by_cases xv:j<us.length
 ·have eu:=aad xv;obtain⟨go,yl⟩:=w1 j _ eu;rw[abv xv] at f';obtain⟨ν,e2,f2⟩:=f'.of;refine .inr ⟨go,λσ H=>∃A' ε u' v' L',m5 X.K G _ A' ε σ H i n u' v' L'/\ε[i]? = some _/\pQ X.K G _ i n _ D,λζ H' z=>⟨k-1,by lia,by lia,z⟩,λx H' y=>?_⟩;obtain⟨sm,rp⟩:=yl x H' y;have h2:=h'.same sm;refine⟨(Z.lp A H1).hx H' L',A',ε.set i none,us[j],h2.rel,rp,?_⟩;rw[e2];intro Ζ q2 keep;have ME:Ζ[i]? = some (some v'):=by rw[keep i ci];exact h2.at_
  have il:i<ν.length:=by
   rw[q2.len];exact (aap.mp ME).1
  have Px:(ν.set i _)[i]? = some (some u'):=abK il;rw[eO,ae1] at f2;refine⟨Z.lp A H1,A',ν.set i _,u',v',L',⟨ME,h2.nod,h2.fr,h2.dp,by rw[List.set_set];exact q2.drop i⟩,Px,?_⟩;cases e3:s1 _ with
  |nx Ω=>rw[e3] at f2;exact λA3 Ο H3 u3 v3 L3 h3 Zj=>⟨A3,Ω,u3,v3,L3,h3,Zj,f2⟩
  |ct Ω=>rw[e3] at f2;exact λA3 Ο H3 u3 v3 L3 h3 Zj=>⟨A3,Ω,u3,v3,L3,h3,Zj,f2⟩
  |bk Ω=>rw[e3] at f2;exact f2
  |rt=>rw[e3] at f2;exact f2
  |exc=>rw[e3] at f2;exact f2
  |stk=>rw[e3] at f2;exact f2
 ·have e:j=us.length:=by lia
  subst e;rw[ac8] at f';exact .inl ⟨w2,f' A' σ H u' v' L' h' eO⟩⟩
noncomputable def BD (i:Nat)(g:Ev->SR):Ev->SR:=λρ=>match ρ[i]? with
 |some (some (.dct [] []))=>match g ρ with
  | .nx ε=>.nx ε
  | .bk ε=>.bk ε
  | .ct ε=>.ct ε
  |_=>.stk
 |_=>.stk
theorem Ol (h:DD X G i (n+2) st s1)(hi:G.io=true->i≠0:=by decide)(c:G.is i=true:=by rfl):DS X G m st (BD i s1):=⟨h.un.to λD σ H θ=>by
 obtain⟨Z,A,ρ,q,f⟩:=θ;unfold BD at f;split at f
 ·rename_i hu;obtain⟨a,hd⟩:=q.hid c hi hu;refine⟨Z,A,ρ,_,_,_,hd,hu,?_⟩;cases e:s1 ρ with
  |nx=>rw[e] at f;exact λA' ζ H' u' v' L' h' eO=>f _ ζ H' (h'.un c eO)
  |bk=>rw[e] at f;exact λA' ζ H' u' v' L' h' eO=>f _ ζ H' (h'.un c eO)
  |ct=>rw[e] at f;exact λA' ζ H' u' v' L' h' eO=>f _ ζ H' (h'.un c eO)
  |rt=>rw[e] at f;exact f.elim
  |exc=>rw[e] at f;exact f.elim
  |stk=>rw[e] at f;exact f.elim
 ·exact f.elim⟩
end
end L2
namespace L2
def vG (i:Nat):Ev->R (U×(U->U)):=λρ=>match ρ[i]? with
 |some (some u)=>.ok (u,id)
 |_=>.stk
def XC (K:aam)(G:Gm)(i n m:Nat)(gp:Ev->R (U×(U->U))):TE:=λσ H Q=>∃Z A ρ u v L,m5 K G Z A ρ σ H i n u v L/\ρ[i]? = some (some u)/\match gp ρ with
 | .ok (u',F)=>∀A1 H1 L1 v' L',m5 K G Z A1 ρ σ H1 i n (F u') v L1->At K H1 A1 n v L1 m u' v' L' F->Q v' H1
 |_=>False
def YE:Nat->HO
 |0=>.lst []
 |_=>.dK []
def Wg:Nat->U
 |0=>.lst []
 |_=>.dct [] []
def ZY (m:Nat):TE:=λ_ H Q=>∀p,H p=none->Q (.ref p) (dz H p (YE m))
theorem S1 {c:aaL}:∀{m:Nat},m≠1->H c=some (YE m)->Dp K H A m (Wg m) (.ref c) [c]
 |1,n,_=>absurd rfl n
 |0,_,h=>⟨c,[],[],rfl,rfl,rfl,h,abU _,aU.nil⟩
 |m+2,_,h=>⟨c,[],[],[],rfl,rfl,rfl,⟨.inr ⟨rfl,h⟩,ab1,(λe he=>nomatch he)⟩,λ_=>h,abU _,rfl,rfl⟩
theorem Dp.self {c:aaL}:∀{m:Nat},m≠1->Dp K H A m u (.ref c) L->c∈L
 |1,n,_=>absurd rfl n
 |0,_,⟨a,_,_,e,_,e2,_⟩=>by grind
 |m+2,_,⟨a,_,_,_,e,_,e2,_⟩=>by grind
section
variable {e o f:ab6}{pos fA μ p1:Pos}{y:Str}{mk:Md}{gk:Ev->R (U×Ev)}{gp:Ev->R (U×(U->U))}
def Om:PE X (.List [] pos) (ZY 0):=(IE n_).to λσ H Q h=>⟨abU _,h⟩
theorem Oo (i:Nat)(hN:X.N[i]? = some y:=by rfl)(hv:EM X.env.scope y:=by first|exact Or.inl rfl|exact Or.inr (Or.inl rfl)|exact Or.inr (Or.inr rfl))(hd:(y==("__debug__":Str))=false:=by decide)
  (nE:(y==("__classdict__":Str))=false:=by decide):PE X (.Name y pos) (XC X.K G i n n (vG i)):=(iV hN hv hd nE).to λσ H Q θ=>by
 obtain⟨Z,A,ρ,u,v,L,h,hu,f⟩:=θ;unfold vG at f;rw[hu] at f;exact⟨v,h.at_,f A H L v L h (.root h.dp h.nod)⟩
noncomputable def K8 (i:Nat)(gp:Ev->R (U×(U->U)))(g:Ev->R (U×Ev)):Ev->SR:=λρ=>SR.of (gp ρ) λx=>SR.of (g (ρ.set i none)) λy=>match x.1 with
 | .lst us=>if us.length<aaf then .nx (ρ.set i (some (x.2 (.lst (us++[y.1]))))) else .stk
 |_=>.stk
theorem S2 (ho:PE X o (XC X.K G i n 0 gp))(he:DE X G e false mk gk)(hn:mk≠.P:=by decide)
  (wB:adH o "append" X.env (adM o X.env)=adM o X.env:=by rfl)
  (EE:((acy μ (aaN [e] X.env)).all (λx=> !x.1)&&(backToKw μ (aey [] X.env)).all (λx=>x.1.isSome)
   && decide ([e].length+([]:List aed).length+(if ([]:List aed).isEmpty then 0 else 1)<30))=true:=by rfl)
  (wC:(fA.endLine==μ.line)=true:=by rfl) (hs:aaN [e] X.env=(false,adM e X.env)::aaN [] X.env:=by rfl) (oJ:(acy μ (aaN [] X.env)).any (·.1)=false:=by rfl)
  (hw:adO (.Call (.Attribute o "append" fA) [e] [] μ) none pos.line X.env=pure false:=by rfl) :
  DD X G i n (.Expr (.Call (.Attribute o "append" fA) [e] [] μ) pos) (K8 i gp gk):=⟨(ER (IJ aa8 aba abb dW ho (ae he ai (λh=>absurd h hn) hs).un wB EE wC hs oJ) hw).to λD σ H θ=>by
 obtain⟨Z,A,ρ,u,v,L,hd,Ξ,f⟩:=θ;obtain⟨⟨u1,F⟩,e1,f⟩:=f.of;obtain⟨⟨y,ë⟩,e2,f⟩:=f.of;refine⟨Z,A,ρ,u,v,L,hd,Ξ,?_⟩;rw[e1];intro A1 H1 L1 v' L' MF Um;obtain⟨a,us,xs,r1,r2,r3,q,l,r⟩:=id Um.dp;subst r1 r2 r3;dsimp only at f;split at f;rotate_left
 ·exact f.elim
 rename_i hl;refine⟨.inl ⟨rfl,xs,.inl (.inl q)⟩,Z.hx H1 L1,A1,ρ.set i none,MF.rel,?_⟩;unfold af;rw[e2];intro vs H2 q2 x2 s2 rA;have sm:=(s2 rfl).2;have rr:=rA.rps;obtain⟨w,wr,rfl,rw1,rw2⟩:=rr;subst rw2;have ME:=Um.keep (mC MF.rel.mu sm) (MF.kept sm) (FW sm);have yx:=MF.same sm;have q2' :=sm a _ q;have r2:=r.same sm;refine⟨a,xs,w,rfl,rfl,q2',by rw[←r.length];exact hl,?_⟩;have aA:=yx.inA (ME.sub a aae);have hb:∀b,b≠a->dz H2 a (.lst (xs++[w])) b=H2 b:=λb nb=>by unfold dz;rw[hV nb]
 have g:CA A1 A1 H2 (dz H2 a _):=⟨yx.rel.mu,λb o nb e=>by rw[hb b (λz=>nb (z▸aA))];exact e,λb z=>.inl z⟩;obtain⟨L4,d4,n4,z1,z3,z2⟩:=ME.put _ A1 _ [a] g (λb Aq nb=>hb b λz=>nb (by rw[z];exact aae))
  ⟨a,_,_,rfl,rfl,rfl,bD,by rw[aay];exact hl,(r2.snoc rw1).re g.mu g.ex g.nw⟩ (abE _ _) (λb hb=>hb) (λb hb=>.inl hb)
 have il:i<ρ.length:=by
  grind
 refine f A1 σ _ _ v L4 (yx.put g (λb z=>z) (λb nb ne=>hb b λz=>nb (z3 b (by rw[z];exact aae))) n4 z1 (λb Aq=>?_) (λb Aq=>?_) (λb z=>.inl z) d4 (List.set_set _)) (abK il)
 ·rcases z2 b Aq with x|x
  ·rw[aau] at x;rw[x];exact .inl (ME.sub a aae)
  ·exact .inl x
 ·rcases z2 b Aq with x|x
  ·rw[aau] at x;rw[x];exact aA
  ·exact yx.inA x⟩
end
end L2
namespace L2
open PySem.W Hc.Dw
def K9:List V->Hp->VK->Prop:=λxs H Q=>∃p ep es,xs=[.ref p]/\H p=some (DN p ep es)/\es.length<=aaf/\∀l,H l=none->Q (.ref l) (dz H l (.lst (es.map λe=>V.ref e.2.1)))
theorem FY:∀(es:List (List U×aaL×V)),bf (es.map λe=>V.ref e.2.1) ((es.map (·.2.1)).map Value.ref)
 | []=>.nil
 |_::es=>.cons rfl (FY es)
theorem DX (hc:X.calm=true):eW X (.type "list") K9:=by
 intro ċ s σ H xs us Q I r h;obtain⟨p,ep,es,rfl,hs,hz,q⟩:=h;obtain⟨u,rfl,rx⟩:=i9 r;cases rx;obtain⟨lo,ds,rd,n,at_⟩:=I.rawD hs;refine kdl_call (V_ lo) (I.ok.hd hc) rd (by rw[n];exact hz) λh1 tk b8 c k1 e1 ia=>?_;have e:b8.toList=(es.map (·.2.1)).map Value.ref:=by
  apply acU;intro i;rw[aa0,aat,aar];by_cases hi:i<b8.size
  ·rw[getElem?_pos b8 i hi];obtain⟨en,e1,e2⟩:=ia.2 i _ (getElem?_pos b8 i hi);have Ap:i<ds.size:=by rw[←ia.1];exact hi
   rw[getElem?_pos ds i Ap] at e1;cases e1;obtain⟨x,m,ek,_⟩:=at_ i Ap;rw[m,e2,ek];rfl
  ·rw[acE (by lia)];have:es[i]? = none:=List.getElem?_eq_none (by rw[←n,←ia.1];lia);rw[this];rfl
 have e3:b8=((es.map (·.2.1)).map Value.ref).toArray:=by rw[←e]
 rw[e3] at e1;exact⟨.ref _,_,I.laid k1 (aaq _) (show cR X.prog X.w _ h1 _ (.lst _) from ⟨by rw[aaa];exact hz,_,c,FY es,e1⟩),rfl,q _ (I.hok.fresh (aaq _))⟩
def vH:List U->R U:=λus=>match us with
 | [.dct ks _]=>if DC ks=true then .ok (.lst ks) else .stk
 |_=>.stk
theorem BE {K:aam}{H:Hp}{A:aaL->Prop}:∀{es:List (List U×aaL×V)},(∀e∈es,wO H e.1 e.2.1)->aU K H A (es.map λp=>.tup p.1) (es.map λe=>V.ref e.2.1)
 | [],_=>aU.nil
 |e::es,h=>aU.cons (KI (h e aae)) (BE λx hx=>h x (aai _ hx))
theorem HJ:lT K K9 .O vH:=λA H vs us z Q h mu e q=>by
 unfold vH at e;split at e
 ·split at e
  ·rename_i wk;cases e;obtain⟨v,rfl,p⟩:=h.one;obtain⟨a,xs,rfl,d,l,r⟩:=p;obtain⟨es,ep,h1,kt,rfl,rfl⟩:=DH wk d;have le:es.length<=aaf:=by have:=r.length;simp_all
   exact⟨a,ep,es,rfl,h1,le,λl hl=>q _ _ (cD hl _) ⟨l,rfl,hl,cI mu (BE kt) hl (by rw[aaa];exact le)⟩⟩
  ·cases e
 ·cases e
theorem vI {A:abd}{k v:ab6}{pos:Pos}(h:aaT (aaX prog w) A (adM k env) (λkv s1=>aaT (aaX prog w) A (adM v env) (λvv s2=>aaT (aaX prog w) A (dictSet s.heap.objs.size kv vv) (λ_ s3=>Q (.ref s.heap.objs.size) s3) E s2) E s1) E {s with heap:=s.heap.push {cls:=.type "dict",data:=.dict #[]}}) :
  aaT (aaX prog w) A (adM (.Dict [some k] [v] pos) env) Q E s:=by
 rw[arm_eval_Dict,zip_pairTrees [some k] [v] env pos rfl rfl,dictDisplay_pairs _ (by simp[pairTrees]) (by simp[pairTrees])];refine aab (ae4 (aab ?_));refine aab (wpAny_alloc ?_);refine aab (abx ?_);refine aab (pairTrees_cons_walk (abr h (λkv s1 h1=>abr h1 (λvv s2 h2=>pairTrees_nil_walk ?_) λ_ _ e=>e) λ_ _ e=>e));refine abx ?_;rw[aej];refine aab (aab (aab (abr h2 (λ_ s3 h3=>aah ?_) λ_ _ e=>e)));show aaT _ _ _ _ _ _;exact aah (aah (aah (aah h3)))
def S3 (tk tv:TE):TE:=λσ H Q=>∀p,H p=none->tk σ (dz H p (.dK [])) λx H1=>tv σ H1 λy H2=>∃kk b,x=.ref b/\H2 p=some (.dK [])/\wO H2 kk b/\∀ep,Q (.ref p) (dz H2 p (DN p ep (j9 [] kk b y)))
theorem K_ {pos:Pos}{k v:ab6}{tk tv:TE}(hu:X.A.units+64<abW)(hk:PE X k tk)(hv:PE X v tv):PE X (.Dict [some k] [v] pos) (S3 tk tv):=by
 intro ċ s σ H Q I q;have hn:=I.hok.fresh (aaq _);have I1:=I.laid (t':=s.toks) (λ_ _ q=>aak _ q) (aaq _) (AF s.heap I.big);refine vI (fg (hk ċ _ σ _ _ I1 (q _ hn)) λu s1 ⟨x,H1,I1,rx,q1⟩=>fg (hv ċ s1 σ H1 _ I1 q1) λw2 s2 ⟨y,H2,I2,ry,q2⟩=>?_);obtain⟨kk,b,rfl,e,kb,q2⟩:=q2;cases rx;have g:fT H2 _ []:=⟨.inr ⟨rfl,e⟩,ab1,λe he=>by cases he⟩;obtain⟨xs,rel,dd⟩:=g.of I2.hok;refine wpAny_dictSet_heap (hsz:=by rw[←aea rel];exact abU _) (show X.A.units+20<abW by lia) (kb.tk I2.hok) dd λh' Ri hs=>?_;obtain⟨q,ds,ep,hq,h2,h3,h4,_,h5⟩:=Ri;refine⟨.ref _,_,?_,rfl,q2 ep⟩;exact t7 I2 g.mut hs ⟨q,hq⟩ ⟨⟨g.lo I2.hok,q,ds,_,hq,h2,h3,AQ kk ry rel,h4⟩,⟨q,hq⟩,λg1 g2 ⟨l,o,ds,xs,z1,z2⟩ kp=>⟨l,o,ds,xs,kp _ z1,z2⟩⟩
def UC (j:Nat)(n:Int):Ev->R (U×Ev):=λρ=>match ρ[j]? with
 |some (some (.tup ks))=>if qD (.tup ks)=true then .ok (.dct [.tup ks] [.int n],ρ) else .stk
 |_=>.stk
theorem La {pos p1 k2 p2}{y:Str}{n:Int}(hu:X.A.units+64<abW)(hN:X.N[j]? = some y:=by rfl)(hv:EM X.env.scope y:=by first|exact Or.inl rfl|exact Or.inr (Or.inl rfl)|exact Or.inr (Or.inr rfl))(c:G.is j=false:=by rfl)(hd:(y==("__debug__":Str))=false:=by decide)(nE:(y==("__classdict__":Str))=false:=by decide):DE X G (.Dict [some (.Name y p1)] [.Constant (.int n) k2 p2] pos) false .O (UC j n):=⟨(K_ hu (iV hN hv hd nE) CD).to λσ H Q h=>by
 obtain⟨Z,A,ρ,q,f⟩:=h;unfold UC at f;split at f
 ·rename_i ks h0;split at f
  ·rename_i kt;intro a na;obtain⟨v,h1,h2⟩:=q.slot j _ h0;rw[hV (by lia)] at h2;obtain⟨b,rfl,kb⟩:=rK kt h2;have s1:=cD na (.dK []);refine⟨.ref b,h1,ks,b,rfl,bD,kb.to λc ys hc=>s1 _ _ hc,λep=>?_⟩;have sn:aO H (dz (dz H a (.dK [])) a (DN a ep (j9 [] ks b (.int n)))):=λb o e=>by
    grind[bB]
   exact f _ _ (q.same sn) (fU.same sn) (λ_=>⟨rfl,sn⟩) (E3.e q sn ⟨a,rfl,na,[.int n],.inr ⟨[(ks,b,.int n)],List.cons_ne_nil _ _,⟨.inl ⟨ep,bD⟩,abe.mpr ⟨acJ,ab1⟩,λe he=>by
    rw[aau.mp he];exact kb.to λc ys hc=>sn _ _ hc⟩,rfl,rfl⟩,(by have:aaf=16777216:=rfl;rw[this];simp),aU.cons dJ aU.nil⟩)
  ·exact f.elim
 ·exact f.elim⟩
end L2
namespace L2
section
variable {e a b c o f:ab6}{rest:List adN}{pos fA μ p1 jR lp:Pos}{y:Str}{m1 mk:Md}{g1 gk:Ev->R (U×Ev)}{gp:Ev->R (U×(U->U))}{s1 s2:Ev->SR}
theorem BF (ha:DD X G i n st s1)(hb:SY X G i n rest s2):SY X G i n (st::rest) (aD s1 s2):=⟨(Aw ha.un hb.un).to λD σ H θ=>by
 obtain⟨Z,A,ρ,u,v,L,h,hu,f⟩:=θ;refine⟨Z,A,ρ,u,v,L,h,hu,?_⟩;unfold aD at f;cases e:s1 ρ with
 |nx η=>rw[e] at f;exact λA1 Â H1 u1 v1 L1 h1 jK=>⟨Z,A1,η,u1,v1,L1,h1,jK,f⟩
 |rt=>rw[e] at f;exact f
 |bk=>rw[e] at f;exact f
 |ct=>rw[e] at f;exact f
 |exc=>rw[e] at f;exact f
 |stk=>rw[e] at f;exact f⟩
noncomputable def BG (i:Nat)(sg:U->Ev->R Ev)(g:Ev->R (U×Ev)):Ev->SR:=λρ=>SR.of (g (ρ.set i none)) λx=>SR.of (sg x.1 (ρ.set i none)) λν=>.nx (ν.set i (ρ[i]?.getD none))
theorem S4 (h:DE X G e false m1 g1)(hg:DG X G tg sg)(hn:m1≠.P:=by decide)(ci:G.is i=true:=by rfl)(hs:ae5 [tg] e pos.line X.env=pure false:=by rfl)(hw:ae6 [tg] e X.env=pure none:=by rfl)(h1:(acR [tg] X.env).map (·.2)=[assign tg X.env]:=by rfl):DD X G i n (.Assign [tg] e pos) (BG i sg g1):=⟨(Iu h.un hg.un hs hw h1).to λD σ H θ=>by
 obtain⟨Z,A,ρ,u,v,L,hd,hu,f⟩:=θ;obtain⟨⟨x,η⟩,e1,f⟩:=f.of;obtain⟨ν,e2,f⟩:=f.of;refine⟨Z.hx H L,A,ρ.set i none,hd.rel,?_⟩;rw[e1];intro vy H1 q1 x1 s1 vm;have sm:=(s1 rfl).2;have h2:=hd.same sm;refine⟨Z.hx H1 L,A,ρ.set i none,x,h2.rel,vm.rp hn,?_⟩;rw[e2];intro Ζ q2 keep;have ME:Ζ[i]? = some (some v):=by rw[keep i ci];exact h2.at_
 have il:i<ν.length:=by
  rw[q2.len];exact (aap.mp ME).1
 have Px:(ν.set i (some u))[i]? = some (some u):=abK il;rw[hu] at f;exact f A Ζ H1 u v L ⟨ME,h2.nod,h2.fr,h2.dp,by rw[List.set_set];exact q2.drop i⟩ Px⟩
def DY (i:Nat)(gp:Ev->R (U×(U->U)))(gk:Ev->R (U×Ev)):Ev->R (U×(U->U)):=λρ=>(gp ρ).bind λx=>(gk (ρ.set i none)).bind λk=>match x.1 with
 | .dct ks us=>if qD k.1=true then (match fJ ks us k.1 with
  |some z=>.ok (z,λw=>x.2 (.dct (er ks k.1) (dP ks us k.1 w)))
  |none=>.stk) else .stk
 |_=>.stk
theorem S5 (hu:X.A.units+64<abW)(ho:PE X o (XC X.K G i n (m+2) gp))(he:DE X G e false mk gk)(hn:mk≠.P:=by decide)(hs:Nr e:=by intro _ _;rfl):PE X (.Subscript o e pos) (XC X.K G i n m (DY i gp gk)):=(Fi hu ho he.un hs).to λσ H Q θ=>by
 obtain⟨Z,A,ρ,u,v,L,hd,Ξ,f⟩:=θ;unfold DY at f;cases e1:gp ρ with
 |stk=>rw[e1] at f;exact f.elim
 |exc=>rw[e1] at f;exact f.elim
 |ok x=>
  obtain⟨u1,F⟩:=x;rw[e1] at f;dsimp only[R.bind] at f;cases e2:gk _ with
  |stk=>rw[e2] at f;exact f.elim
  |exc=>rw[e2] at f;exact f.elim
  |ok k=>
   obtain⟨k,ó⟩:=k;rw[e2] at f;refine⟨Z,A,ρ,u,v,L,hd,Ξ,?_⟩;rw[e1];intro A1 H1 L1 v' L' MF Um;obtain⟨a,us,es,M,r1,r2,r3,d,z,l,al⟩:=id Um.dp;subst r1 r2 r3;dsimp only at f;refine⟨Z.hx H1 L1,A1,ρ.set i none,MF.rel,?_⟩;rw[e2];intro vk H2 q2 x2 s2 rA;have Ig:=(s2 rfl).2;by_cases Cv:qD k=true;rotate_left
   ·rw[hV Cv] at f;exact f.elim
   rw[hZ Cv] at f;cases k<;>first|(cases Cv)|skip
   rename_i kk;obtain⟨b,rfl,kb⟩:=rK Cv (rA.rp hn);have Uo:=mC MF.rel.mu Ig;have Xe:=MF.kept Ig;have at3:=Um.keep Uo Xe (FW Ig);have ka:=Xe a (Um.sub a aae);have d3:=d.re ka Uo.tup;have al3:=al.imp λu v L' s (p:Dp X.K H1 A1 m u v L')=>p.re Uo λb hb=>Xe b (Um.sub b (aai _ (s b hb)));cases hx:iL es kk with
   |none=>
    rw[pP λz=>vF hx (pO.mp z)] at f;exact f.elim
   |some x=>
    obtain⟨u',L2,y1,y2,y3⟩:=at3.child d3 (by rw[ka];exact z) l al3 hx;rw[y1] at f;refine⟨a,x,rfl,.inr ⟨es,kk,b,d3,rfl,kb,hx.symm⟩,f A1 _ L1 x L2 ?_ y3⟩;show m5 _ _ _ _ _ _ _ _ _ (F _) _ _;rw[y2];exact MF.same Ig
def Lb (i:Nat)(gk:Ev->R (U×Ev))(s1 s2:Ev->SR):Ev->SR:=λρ=>SR.of (gk (ρ.set i none)) λk=>match ρ[i]? with
 |some (some (.dct ks us))=>if qD k.1=true then (if (fJ ks us k.1).isSome=true then s2 ρ else s1 ρ) else .stk
 |_=>.stk
theorem S6 {sa sb:List adN}(hu:X.A.units+64<abW)(he:DE X G e false mk gk)(ha:SY X G i (n+2) sa s1)(hb:SY X G i (n+2) sb s2)(hn:mk≠.P:=by decide)(hN:X.N[i]? = some y:=by rfl)(hv:EM X.env.scope y:=by first|exact Or.inl rfl|exact Or.inr (Or.inl rfl)|exact Or.inr (Or.inr rfl))(hd:(y==("__debug__":Str))=false:=by decide)
  (nE:(y==("__classdict__":Str))=false:=by decide) (hm:adG .NotIn (.Name y p1)=false:=by with_unfolding_all rfl):DD X G i (n+2) (.If (.Compare e [.NotIn] [.Name y p1] μ) sa sb pos) (Lb i gk s1 s2):=⟨(PB (ET (Hk hu) he.un (iV hN hv hd nE) hm) ha.un hb.un).to λD σ H θ=>by
 obtain⟨Z,A,ρ,u,v,L,hd,Ξ,f⟩:=θ;obtain⟨⟨k,ó⟩,e2,f⟩:=f.of;rw[Ξ] at f;obtain⟨a,us,es,M,r1,r2,r3,d,z,l,al⟩:=id hd.dp;subst r1 r2 r3;dsimp only at f;by_cases Cv:qD k=true;rotate_left
 ·rw[hV Cv] at f;exact f.elim
 rw[hZ Cv] at f;refine⟨Z.hx H _,A,ρ.set i none,hd.rel,?_⟩;rw[e2];intro vk H2 q2 x2 s2 rA;have Ig:=(s2 rfl).2;have h2:=hd.same Ig;cases k<;>first|(cases Cv)|skip
 rename_i kk;obtain⟨b,rfl,kb⟩:=rK Cv (rA.rp hn);have Uo:=mC hd.rel.mu Ig;have ka:=hd.kept Ig a aae;have d3:=d.re ka Uo.tup;refine⟨.ref a,h2.at_,a,iL es kk,rfl,.inr ⟨es,kk,b,d3,rfl,kb,rfl⟩,_,rfl,?_⟩;cases hx:iL es kk with
 |none=>
  rw[pP λz=>vF hx (pO.mp z)] at f;exact⟨Z,A,ρ,_,_,_,h2,Ξ,f⟩
 |some x=>
  obtain⟨_,nM⟩:=abe.mp hd.nod;obtain⟨u',_,y1,_⟩:=al.find d.nd nM hx;rw[y1] at f;exact⟨Z,A,ρ,_,_,_,h2,Ξ,f⟩⟩
def yo (i m:Nat)(gk:Ev->R (U×Ev)):Ev->SR:=λρ=>SR.of (gk (ρ.set i none)) λk=>match ρ[i]? with
 |some (some (.dct ks us))=>if qD k.1=true/\us.length<aaf then (match fJ ks us k.1 with
  |none=>.nx (ρ.set i (some (.dct (er ks k.1) (dP ks us k.1 (Wg m)))))
  |some _=>.stk) else .stk
 |_=>.stk
theorem Oq (hu:X.A.units+64<abW)(he:DE X G e false mk gk)(hf:PE X f (ZY m))(ø:m≠1:=by decide)(hn:mk≠.P:=by decide)(hN:X.N[i]? = some y:=by rfl)(hv:EM X.env.scope y:=by first|exact Or.inl rfl|exact Or.inr (Or.inl rfl)|exact Or.inr (Or.inr rfl))(hd:(y==("__debug__":Str))=false:=by decide)
  (nE:(y==("__classdict__":Str))=false:=by decide) (hs:adO f (some (.Subscript (.Name y p1) e jR)) pos.line X.env=pure false:=by rfl):DD X G i (m+2) (.Assign [.Subscript (.Name y p1) e jR] f pos) (yo i m gk):=⟨(Fj hu (iV hN hv hd nE) he.un hf hs).to λD σ H θ=>by
 obtain⟨Z,A,ρ,u,v,L,hd,Ξ,f⟩:=θ;obtain⟨⟨k,ó⟩,e2,f⟩:=f.of;rw[Ξ] at f;obtain⟨a,us,es,M,r1,r2,r3,d,z,l,al⟩:=id hd.dp;subst r1 r2 r3;dsimp only at f;by_cases hk:qD k=true/\us.length<aaf;rotate_left
 ·rw[hV hk] at f;exact f.elim
 rw[hZ hk] at f;intro c nc;have s3:aO H (dz H c (YE m)):=cD nc _;have h1:=hd.same s3;refine⟨.ref a,h1.at_,Z.hx _ _,A,ρ.set i none,h1.rel,?_⟩;rw[e2];intro vk H2 q2 x2 s2 rA;have Ig:=(s2 rfl).2;have XR:=s3.trans Ig;have Cv:=hk.1;cases k<;>first|(cases Cv)|skip
 rename_i kk;obtain⟨b,rfl,kb⟩:=rK Cv (rA.rp hn);have Uo:=mC hd.rel.mu XR;have Xe:=hd.kept XR;have ka:=Xe a aae;have d3:=d.re ka Uo.tup;have hl:es.length=us.length:=by rw[al.length,aaa]
 cases hx:iL es kk with
 |some x=>
  obtain⟨_,nM⟩:=abe.mp hd.nod;obtain⟨u',_,y1,_⟩:=al.find d.nd nM hx;rw[y1] at f;exact f.elim
 |none=>
  refine⟨a,rfl,.inr ⟨es,kk,b,d3,rfl,kb,by simp[*],λep=>?_⟩⟩;obtain⟨L4,L2,y1,y3,z1,z2,g⟩:=At.new (At.root hd.dp hd.nod) d hk.2 al hd.rel.mu (λb hb=>hd.inA hb) XR nc kb hx rfl (λH' e _=>S1 ø (by rw[e];exact Ig c _ bD));rw[y1] at f;have il:=(aap.mp Ξ).1;refine f _ σ _ _ _ L4 (hd.put g (λb z=>.inl z) (λb nb ne=>?_) y3.nod z1 (λb hb=>?_) (λb hb=>?_) (λb z=>?_) y3.all (List.set_set _)) (abK il)
  ·have:b≠a:=λq=>nb (by rw[q];exact z1 a aae);show (if b=a then _ else _)=_;rw[hV this];cases q:H b with
   |none=>exact absurd q ne
   |some o=>exact XR b o q
  ·rcases z2 b hb with y|y
   ·exact .inl y
   ·rw[y];exact .inr nc
  ·exact (z2 b hb).imp (λy=>hd.inA y) id
  ·rcases z with z|z
   ·exact .inl z
   ·rw[z];exact .inr (y3.sub c (y3.dp.self ø))⟩
end
end L2
namespace L2
section
variable {e:ab6}{pos lW p1 p2:Pos}{b1:Bool}{ga:Ev->R (List U×Ev)}
def QQ (w:ac2):List V->Hp->VK->Prop:=λxs H Q=>∃(p:aaL) (bs:List aaL),xs=[.ref p]/\H p=some (.ext (K0 w p bs))/\bs.length<2046/\Q (.int bs.length) H
theorem HK:eW X (.builtin "len") (QQ X.w):=by
 intro ċ s σ H xs us Q I r h;obtain⟨p,bs,rfl,hs,hz,q⟩:=h;obtain⟨u,rfl,rx⟩:=i9 r;cases rx;obtain⟨⟨es,ep,t,Xb,per⟩,_,_⟩:=I.hok p _ hs;have n:=by have:=per.length_eq;simpa using this
 obtain⟨o,ho,hx,hd,hf,_⟩:=Xb;refine call_len_set ho hx hd hf (by lia) ?_;rw[n];exact⟨.int _,H,I.tok _,⟨_,rfl⟩,q⟩
def jw:List U->R U:=λus=>match us with
 | [.lst xs]=>match sH xs with
  |some nj=>if (aX nj).length<2046 then .ok (.int (aX nj).length) else .stk
  |none=>.stk
 |_=>.stk
theorem BH:lT K (λvs H Q=>K2 w K vs H λx H2=>QQ w [x] H2 Q) .S jw:=λA H vs us z Q h mu e q=>by
 unfold jw at e;split at e
 ·split at e
  ·rename_i nj e1;split at e
   ·rename_i hl;cases e;obtain⟨v,rfl,p⟩:=h.one;obtain⟨a,ys,rfl,h1,l1,r1⟩:=p;obtain⟨e2,ne⟩:=kF e1;subst e2;obtain⟨bs,rfl,e4,e5⟩:=kG r1;refine⟨a,bs,rfl,g_.of h1,λb hb=>(e5 b hb).1,by rw[e4];exact hl,λl mJ hn k2 sub=>?_⟩;have ln:mJ.length=(aX nj).length:=by grind
    refine⟨l,mJ,rfl,bD,by simp[*],?_⟩;rw[ln];exact q _ _ (cD hn _) (show Rp K _ A _ _ from dJ)
   ·cases e
  ·cases e
 ·cases e
theorem DZ (hc:X.calm=true)(hu:X.A.units+64<abW)(ha:DA X G [e] b1 true ga)(hg:Gl X "len")(hm:X.mg "len"=none)(Pt:Gl X "set")(Zh:X.mg "set"=none)
  (he:aaN [e] X.env=(false,adM e X.env)::aaN [] X.env:=by rfl) (sO:(acy lW (aaN [] X.env)).any (·.1)=false:=by rfl)
  (Xc:aaN [.Call (.Name "set" p2) [e] [] lW] X.env=(false,adM (.Call (.Name "set" p2) [e] [] lW) X.env)::aaN [] X.env:=by rfl) (EG:(acy pos (aaN [] X.env)).any (·.1)=false:=by rfl) :
  DE X G (.Call (.Name "len" p1) [.Call (.Name "set" p2) [e] [] lW] [] pos) b1 .S (fi jw ga):=⟨(oM HK hg hm gb (jU (ik (yi hc hu) Pt Zh JQ ha.un (by decide) (by decide) he sO) n_ Xc) (by decide) (by decide) Xc EG).to λ_ _ _ h=>t9 (BH) h⟩
end
end L2
namespace L2
noncomputable abbrev cT (X:Cx)(scope:ae3)(N:List Str)(Y:t8):Cx where
 prog:=X.prog
 w:=X.w
 K:=X.K
 mg:=X.mg
 base:=X.base
 A:=X.A
 N:=N
 s₀:=Y.s
 H₀:=Y.H
 env:=compEnvC scope Y.cl Y.C X.env
 Č:=X.stack
 stack:=X.stack
 ex:=Y.fp
 fn:=λx=>decide (scope.names.lookup x=some .cell)
 calm:=X.calm
 pn:=X.pn++Y.ċ
 xe:=λ_ _=>False
noncomputable def nP (k9:ae3)(NX:List Str)(scope:ae3)(N:List Str)(js:List (Option Nat)):Bool:=
 decide (scope.kind=.function)&&scope.names.all (λy=>scope.names.all λz=>decide (y.1=z.1->y.2=z.2))&&scope.names.all (λy=>decide (y.2=.local->scope.names.lookup y.1=some .local))&&decide (js.length=N.length) &&
 (js.zip N).all (λp=>match p.1 with|none=>true|some j=>decide (NX[j]? = some p.2)&&decide (scope.names.lookup p.2=some .free)) &&
 scope.names.all (λy=>decide (y.2=.free->k9.names.lookup y.1=some .cell\/k9.names.lookup y.1=some .free))
structure mD (k9:ae3)(NX:List Str)(scope:ae3)(N:List Str)(js:List (Option Nat)):Prop where
 kind:scope.kind=.function
 apart:∀x k k',(x,k)∈scope.names->(x,k')∈scope.names->k≠k'->False
 loc:∀y∈scope.names,y.2=.local->scope.names.lookup y.1=some .local
 len:js.length=N.length
 cap:∀(i j:Nat) (x:Str),js[i]? = some (some j)->N[i]? = some x->NX[j]? = some x/\scope.names.lookup x=some .free
 free:∀x,(x,NameKind.free)∈scope.names->k9.names.lookup x=some .cell\/k9.names.lookup x=some .free
theorem nP.to {k9:ae3}{NX:List Str}(h:nP k9 NX scope N js=true):mD k9 NX scope N js:=by
 unfold nP at h;simp only[aaC] at h;obtain⟨⟨⟨⟨⟨h1,h2⟩,h3⟩,h4⟩,h5⟩,h6⟩:=h;refine⟨of_decide_eq_true h1,λx k k' a b n=>n (of_decide_eq_true (aaK.mp (aaK.mp h2 _ a) _ b) rfl),λy hy=>of_decide_eq_true (aaK.mp h3 y hy),of_decide_eq_true h4,λi j x e1 e2=>?_,λx hx=>of_decide_eq_true (aaK.mp h6 _ hx) rfl⟩;have hz:(js.zip N)[i]? = some (some j,x):=by
  rw[List.getElem?_zip_eq_some];exact⟨e1,e2⟩
 have q:=aaK.mp h5 _ (abq hz);simp only[aaC] at q;exact⟨of_decide_eq_true q.1,of_decide_eq_true q.2⟩
theorem qK:∀(names:List (Str×afu)) (n:Nat) (cl:List (Str×aaL)),acC n names cl=acC n names []++cl:=by
 have gen:∀(names:List _) (n:Nat) (a cl:List _),acC n names (a++cl)=acC n names a++cl:=by
  intro names
  induction names with
  |nil=>intro n a cl;rfl
  |cons p r ih=>
   intro n a cl;obtain⟨x,k⟩:=p;unfold acC;split
   ·exact ih _ ((x,n)::a) cl
   ·exact ih n a cl
 exact λnames n cl=>gen _ n [] cl
theorem ow:∀(names:List (Str×afu)) (n:Nat) {x:Str} {c:aaL},(x,c)∈acC n names []->(x,NameKind.cell)∈names
 | [],n,x,c,h=>by cases h
 | (y,k)::r,n,x,c,h=>by
  unfold acC at h;split at h
  ·rename_i hk;rw[qK] at h;rcases aaQ.mp h with h|h
   ·exact aai _ (ow r _ h)
   simp_all
  ·exact aai _ (ow r _ h)
theorem Lc {a b:List (Str×aaL)}{c:aaL}(h:(a++b).lookup x=some c):a.lookup x=some c\/(a.lookup x=none/\b.lookup x=some c):=by
 induction a with
 |nil=>exact .inr ⟨rfl,h⟩
 |cons p a ih=>
  obtain⟨y,d⟩:=p;rw[acI,aby] at h;rw[aby];cases q:x==y with
  |true=>rw[q] at h;exact .inl h
  |false=>rw[q] at h;exact ih h
theorem Ld {a b:List (Str×aaL)}(h:a.lookup x=none):(a++b).lookup x=b.lookup x:=by
 grind
theorem zx {a b:List (Str×aaL)}{c:aaL}(h:a.lookup x=some c):(a++b).lookup x=some c:=by
 grind
theorem m6:∀(names:List (Str×afu)) (n:Nat) {x:Str},(x,NameKind.cell)∈names->∃c,(acC n names []).lookup x=some c
 | [],n,x,h=>by cases h
 | (y,k)::r,n,x,h=>by
  unfold acC;split
  ·rw[qK];rcases aaA.mp h with e|h
   ·have e1:=congrArg Prod.fst e;subst e1;cases q:(acC _ r []).lookup x with
    |some c=>exact⟨c,zx q⟩
    |none=>exact⟨n,(Ld q).trans (by simp)⟩
   ·obtain⟨c,q⟩:=m6 r _ h;exact⟨c,zx q⟩
  ·rename_i hk;rcases aaA.mp h with e|h
   ·lia
   ·exact m6 r n h
theorem ox (h:(relabel scope env).names.lookup x=some .cell\/(relabel scope env).names.lookup x=some .free):(x,NameKind.free)∈scope.names\/(x,NameKind.cell)∈scope.names:=by
 have gen:∀k,(k=NameKind.cell\/k=NameKind.free)->(relabel _ env).names.lookup x=some k->(x,NameKind.free)∈scope.names\/(x,NameKind.cell)∈scope.names:=λk hk e=>by
  have hm:=aa5 e;obtain⟨⟨n,k0⟩,hy,q⟩:=aan.mp hm;dsimp only at q;split at q
  ·rename_i c;simp only[aaC,beq_iff_eq] at c;cases q;obtain⟨⟨c1,_⟩,_⟩:=c;rw[c1] at hy;exact .inl hy
  lia
 grind
theorem Ot {A:abd}{globals:aaL}{cl:List (Str×aaL)}{Č:Env}{Q:Env->aaE->Prop}(h:Q (newEnv scope s.heap.objs.size globals (acC (s.heap.objs.size+1) scope.names cl) qual none .none (some Č) builtinsNs) {s with heap:=pushCells (s.heap.push {cls:=.type "dict",data:=.dict #[]}) scope.names}) :
  aaT M A (newFunctionEnv scope globals cl [] qual none .none (some Č)) Q E s:=by
 refine aab (wpAny_alloc ?_);refine aab (wpAny_layCells _ (λname kind cells=>by cases hkc:kind==NameKind.cell<;>simp[hkc]) _ _ _ _ ?_);rw[ab7 ..];exact aah h
theorem sJ {E:aao->aaE->Prop}{s2:aaE}{k9:ae3}{pos:Pos}{g:t8->TG}{tt:t8->TT}{te:t8->TE}{J:It}{tn:Nat->ac5->Prop}{P:List V->Hp->Prop}{cl:List (Str×aaL)}{RR:aao->aaL->Result->aaE->Prop}(I:aG X ċ σ H s2)(hc:X.calm=true)(T:CG X.prog X.w X.K tg J fp it tn)(qm:tn 0 s2.heap)(f2:∀b∈fp,sS X ċ H b)(Af:∀Y:t8,PG (cT X scope N Y) tg (g Y)/\G2 (cT X scope N Y) wW (tt Y)/\PE (cT X scope N Y) Μ (te Y))(S:mD k9 X.N scope N js)(nF:X.env.scope=k9)(c1:∀x c,cl.lookup x=some c->X.env.cells.lookup x=some c)(c2:∀x,(x,NameKind.free)∈scope.names->∃c,cl.lookup x=some c)(h:Vf J js g tt te σ H P)(hR:∀(b8 C:aaL) (ys:List V) (H':Hp) (s':aaE),aG X ċ σ (dz H' b8 (.lst ys)) s'->(∃m,s'.heap.Ns C m)->sS X ċ (dz H' b8 (.lst ys)) C->H' b8=none->P ys H'->RR (.ref b8) C (.ok .next) s') :
  aaT (aaX X.prog X.w) X.A (newList []) (λb8 Ν=>aaT (aaX X.prog X.w) X.A (newFunctionEnv scope X.env.globals cl [] X.env.qual none .none (some X.env)) (λXf Ä=>
   codeAny (aaX X.prog X.w) X.A (.compStart (.ListComp Μ [⟨tg,iter,wW,0⟩] scope pos) 0 (.ref it) b8 {Xf with scope:=relabel scope X.env}) (RR b8 Xf.locals) Ä) E Ν) E s2:=by
 refine abc (Ot ?_);generalize hH2:s2.heap.push {cls:=.type "list",dict:=none,data:=.seq ([]:List aao).toArray}=H2;generalize hh1:pushCells (H2.push {cls:=.type "dict",data:=.dict #[]}) scope.names=Ε;have Zk:Ε.Ns H2.objs.size (λ_=>none):=by rw[←hh1];exact (Heap.Ns.new H2 (.type "dict")).keeps (pushCells_keeps _ _)
 have Ç:∀b o,H2.get? b=some o->Ε.get? b=some o:=λb o e=>by rw[←hh1];exact pushCells_keeps _ _ b o (aak _ e)
 have ê:=by
  have:=cellsFrom_ok scope.names (H2.push {cls:=.type "dict",data:=.dict #[]}) (H2.objs.size+1) [] ⟨λ_ _ hm=>(nomatch hm),List.Pairwise.nil⟩ (by rw[ab7];exact aaq _);rw[ab7,hh1] at this;exact this
 rw[qK scope.names (H2.objs.size+1) cl];have hC:H2.objs.size=s2.heap.objs.size+1:=by rw[←hH2,ab7]
 have Zl:s2.heap.objs.size≠H2.objs.size:=by rw[hC];exact aaW (aeX _)
 have wF:s2.heap.objs.size<=H2.objs.size:=by rw[hC];exact Nat.le_succ _
 have below:∀b,b<s2.heap.objs.size->b≠H2.objs.size/\b≠s2.heap.objs.size:=λb hb=>⟨by rw[hC];exact aaW (acT hb),aaW hb⟩;have Β:=λb o e=>Ç b o (hH2▸aak _ e);have tT:Ε.PlainList s2.heap.objs.size #[]:=⟨_,Ç _ _ (hH2▸aas _ rfl)⟩;have Xg:∀b∈fp,b<s2.heap.objs.size:=λb hb=>by
  obtain⟨o,e,_⟩:=T.obj _ _ qm b hb;exact aaF e
 generalize hCg:H2.objs.size=C at *;generalize hAg:s2.heap.objs.size=b8 at *;generalize hng:acC (C+1) scope.names []=new at *;have Up:∀x c,X.env.cells.lookup x=some c->c<b8:=λx c e=>by
  obtain⟨v,q⟩:=I.cell x c e;rw[←hAg];exact q.lt
 have nw:=λx c e=>ê.empty x c (aa5 e);have Uq:∀x c,(new++cl).lookup x=some c->new.lookup x=some c\/(new.lookup x=none/\cl.lookup x=some c):=λx c e=>Lc e;have Zm:∀x,(x,NameKind.free)∈scope.names->(new++cl).lookup x=cl.lookup x:=λx hx=>by
  cases q:new.lookup x with
  |none=>exact Ld q
  |some c=>
   exfalso;have m:=ow scope.names (C+1) (by rw[hng];exact aa5 q);exact S.apart x _ _ hx m (by decide)
 have Zn:∀c,C<c->H c=none:=λc hc=>I.hok.fresh (by rw[hAg];exact aeJ (ab8 wF hc))
 let Y:t8:=⟨C,s2,H,fp,ċ,new++cl⟩
 have ok:(cT X scope N Y).Ok:=by
  refine⟨I.ok.mod,S.kind,I.ok.glob,I.ok.blt,?_,?_,?_,?_,I.ok.hd,I.ok.frames,.inl rfl,λb hb=>⟨?_,λx c e=>?_⟩,I.bs,abl I.ok.bsz I.sz,λb o e hb=>?_,λb hb hf=>?_,I.stack,I.stkFree⟩
  ·rw[hAg];exact wF
  ·intro x y c e1 e2;rcases Uq x c e1 with q1|⟨_,q1⟩<;>rcases Uq y c e2 with q2|⟨_,q2⟩
   ·exact name_of_addr ê.apart (aa5 q1) (aa5 q2)
   ·exact absurd (adn (nw x c q1).2 (aaZ (Up y c (c1 y c q2)) wF)) (abC _)
   ·exact absurd (adn (nw y c q2).2 (aaZ (Up x c (c1 x c q1)) wF)) (abC _)
   ·exact I.ok.inj x y c (c1 x c q1) (c1 y c q2)
  ·intro x hx;rcases ox hx with z|z
   ·obtain⟨c,e⟩:=c2 x z;exact⟨c,(Zm x z).trans e⟩
   ·obtain⟨c,e⟩:=m6 scope.names (C+1) z;rw[hng] at e;exact⟨c,zx e⟩
  ·intro x c hf e;have hf':=of_decide_eq_true hf;obtain⟨c',e'⟩:=m6 scope.names (C+1) (aa5 hf');rw[hng] at e';have:=by
    have z:=zx (b:=cl) e';have e0:(new++cl).lookup x=some c:=e;rw[e0] at z;exact (aaP z).symm
   subst this;rw[hAg];exact aeJ (ab8 wF (nw x _ e').2)
  ·exact (below b (Xg b hb)).1
  ·rcases Uq x c e with q|⟨_,q⟩
   ·exact λz=>absurd (adn (nw x c q).2 (aaZ (by rw[z];exact Xg b hb) wF)) (abC _)
   ·exact (f2 b hb).2.2.2.2.1 x c (c1 x c q)
  ·rcases (f2 b hb).2.2.2.1 with z|z
   ·exact I.ok.noex b o e z
   ·exact absurd (aaZ (aaF (I.ok.bs b o e).1) z) (abC _)
  ·rcases aaA.mp (I.stkSub b hf) with z|z
   ·exact (f2 b hb).2.1 z
   ·exact (f2 b hb).2.2.1 z
 have Rq:∀p∈X.pn++ċ,p.1<b8:=λp hp=>by rw[←hAg];exact aaF (I.pin p hp).1
 have Xh:∀b∈EL X.stack,b<b8:=λb hb=>by
  obtain⟨_,o,ho,_⟩:=I.stack.mem hb;rw[←hAg];exact aaF ho
 have Xi:∀p∈X.pn++ċ,p.1∉EL X.stack:=λp hp hf=>by
  rcases aaA.mp (I.stkSub _ hf) with z|z
  ·exact (I.pin p hp).2.2.1 z
  ·exact (I.pin p hp).2.2.2.1 z
 have GI:H b8=none:=by rw[←hAg];exact I.hok.fresh (aaq _)
 have hHC:=I.hok.fresh (by rw[hAg];exact wF);have I4:∀tk,aG (cT X scope N Y) [] (sel js σ) H {s2 with heap:=Ε,toks:=tk}:=λtk=>by
  refine⟨ok,rfl,I.bare,Un.kept Β,⟨_,Zk,λi x v e1 e2 e3=>?_⟩,λx c e=>?_,hHC,λx c e=>(Uq x c e).elim (λq=>Zn c (nw x c q).2) (λq=>I.freeC x c (c1 x c q.2)),λp hp=>?_,I.hok.kept Β,?_⟩
  ·
   have Py:=e2;unfold sel at Py;rw[aar] at Py;cases hj:js[i]? with
   |none=>rw[hj] at Py;cases Py
   |some o=>
    rw[hj] at Py;cases o with
    |none=>cases Py
    |some j=>
     have e4:(match σ[j]? with|some v=>v|none=>none)=some v:=aaP Py;obtain⟨nx,fr⟩:=S.cap i j x hj e1;have e5:σ[j]? = some (some v):=by
      cases q:σ[j]? with
      |none=>rw[q] at e4;cases e4
      |some z=>rw[q] at e4;rw[show z=some v from e4]
     obtain⟨m,hn,hl⟩:=I.loc;have kx:X.env.scope.names.lookup x=some .cell\/X.env.scope.names.lookup x=some .free:=by rw[nF];exact S.free x (aa5 fr)
     obtain⟨u,r,lk⟩:=hl j x v nx e5 (.inr kx);refine⟨u,r,.inr ⟨fS fr,?_⟩⟩;obtain⟨c,Á⟩:=c2 x (aa5 fr);rcases lk with⟨k,_⟩|⟨k,c',e',z⟩
     ·have k':X.env.scope.names.lookup x=some .local:=k;rcases kx with q|q<;>· rw[q] at k';cases k'
     ·have:=by
       have:=c1 x c Á;rw[e'] at this;exact aaP this
      subst this;obtain⟨o,ho,hd⟩:=z;exact⟨c',(Zm x (aa5 fr)).trans Á,o,Β _ _ ho,hd⟩
  ·rcases Uq x c e with q|⟨_,q⟩
   ·exact⟨none,(nw x c q).1⟩
   ·obtain⟨v,o,ho,hd⟩:=I.cell x c (c1 x c q);exact⟨v,o,Β _ _ ho,hd⟩
  ·have GG:p∈X.pn++ċ:=by simpa using hp
   obtain⟨q1,q2,q3,q4,q5⟩:=I.pin p GG;exact⟨Β _ _ q1,q2,λz=>absurd (Rq p GG) (by rw[z];exact Nat.not_lt.mpr wF),Xi p GG,q5⟩
  ·unfold sel;rw[aaa];exact S.len
 obtain⟨hg,ht,he⟩:=Af Y;obtain⟨W,⟨m0,w0⟩,turn⟩:=h Y;have Zo:∀{H':Hp} {pl:List (aaL×Obj)},H' b8=none->(∀p∈pl,p.1≠b8)->sS (cT X scope N Y) pl H' b8:=λ{H' pl} hn hp=>by
  refine⟨hn,Zl,λz=>absurd (Xh _ z) (abC _),.inr (by rw[hAg];exact aaq _),λx c e=>(Uq x c e).elim (λq=>acZ (ab8 wF (nw x c q).2)) (λq=>aaW (Up x c (c1 x c q.2))),λp GG=>?_⟩;rcases aaQ.mp GG with z|z
  ·exact aaW (Rq p z)
  ·exact hp p z
 have Zq:∀{H':Hp} {pl:List (aaL×Obj)},(∀b∈fp,H' b=none)->(∀p∈pl,p.1∉fp)->∀b∈fp,sS (cT X scope N Y) pl H' b:=λ{H' pl} hn hp b hb=>by
  refine⟨hn b hb,(below b (Xg b hb)).1,λz=>?_,.inl hb,λx c e=>(Uq x c e).elim (λq z=>absurd (adn (nw x c q).2 (aaZ (by rw[z];exact Xg b hb) wF)) (abC _)) (λq=>(f2 b hb).2.2.2.2.1 x c (c1 x c q.2)),λp GG=>?_⟩
  ·rcases aaA.mp (I.stkSub b z) with q|q
   ·exact (f2 b hb).2.1 q
   ·exact (f2 b hb).2.2.1 q
  ·rcases aaQ.mp GG with z|z
   ·exact (f2 b hb).2.2.2.2.2 p z
   ·exact λe=>hp p z (by rw[e];exact hb)
 have ù:b8∉fp:=λz=>absurd (Xg b8 z) (by intro q;exact abC _ q);have Zr:∀{i:Nat} {x:Str} {v:V},N[i]? = some x->(sel js σ)[i]? = some (some v)->∃u c o,aZ v u/\scope.names.lookup x=some .free/\cl.lookup x=some c/\s2.heap.get? c=some o/\o.data=.cell (some u):=λ{i x v} e1 e2=>by
  unfold sel at e2;rw[aar] at e2;cases hj:js[i]? with
  |none=>rw[hj] at e2;cases e2
  |some o=>
   rw[hj] at e2;cases o with
   |none=>cases e2
   |some j=>
    have e4:(match σ[j]? with|some v=>v|none=>none)=some v:=aaP e2;obtain⟨nx,fr⟩:=S.cap i j x hj e1;have e5:σ[j]? = some (some v):=by
     cases q:σ[j]? with
     |none=>rw[q] at e4;cases e4
     |some z=>rw[q] at e4;rw[show z=some v from e4]
    obtain⟨m,hn,hl⟩:=I.loc;have kx:X.env.scope.names.lookup x=some .cell\/X.env.scope.names.lookup x=some .free:=by rw[nF];exact S.free x (aa5 fr)
    obtain⟨u,r,lk⟩:=hl j x v nx e5 (.inr kx);obtain⟨c,Á⟩:=c2 x (aa5 fr);rcases lk with⟨k,_⟩|⟨k,c',e',z⟩
    ·have k':X.env.scope.names.lookup x=some .local:=k;rcases kx with q|q<;>· rw[q] at k';cases k'
    ·have:=by
      have:=c1 x c Á;rw[e'] at this;exact aaP this
     subst this;obtain⟨o,ho,hd⟩:=z;exact⟨u,c',o,r,fr,Á,ho,hd⟩
 have Ò:∀{pl:List (aaL×Obj)} {ζ:St} {H':Hp} {s':aaE},aG (cT X scope N Y) pl ζ H' s'->aG (cT X scope N Y) pl (sel js σ) H' s':=λ{pl ζ H' s'} K=>by
  refine⟨K.ok,K.os,K.bare,K.base,?_,K.cell,K.free,K.freeC,K.pin,K.hok,?_⟩
  ·obtain⟨m,hn,_⟩:=K.loc;refine⟨m,hn,λi x v e1 e2 e3=>?_⟩;obtain⟨u,c,o,r,fr,Á,ho,hd⟩:=Zr e1 e2;refine⟨u,r,.inr ⟨fS fr,c,(Zm x (aa5 fr)).trans Á,?_⟩⟩;obtain⟨sl,q⟩:=K.base.any ho (I.freeC x c (c1 x c Á)) λz=>(f2 c z).2.2.2.2.1 x c (c1 x c Á) rfl;exact⟨_,q,hd⟩
  ·unfold sel;rw[aaa];exact S.len
 have Ù:∀tk,codeAny (aaX X.prog X.w) X.A (.compLoop (.ListComp Μ [⟨tg,iter,wW,0⟩] scope pos) 0 (.ref it) (.ref b8) (compEnvC scope (new++cl) C X.env)) (RR (.ref b8) C) {s2 with heap:=Ε,toks:=tk}:=by
  intro tk;refine lZ (λn s'=>∃(i:Nat) (ys:List V) (az:List aao) (H':Hp),aG (cT X scope N Y) [] (sel js σ) H' s'/\tn i s'.heap/\(∀b∈fp,H' b=none)/\H' b8=none/\s'.heap.PlainList b8 az.toArray/\bf ys az/\ys.length<=aaf/\W i n ys H') ?_ m0
   ⟨0,[],[],H,I4 tk,T.keep _ _ _ qm (λb hb o e=>Β b o e),λb hb=>(f2 b hb).1,GI,tT,.nil,abU _,w0⟩
  rintro n s3 ⟨i,ys,az,H3,I3,Ul,fr3,na3,⟨nn,ea⟩,rv3,hz3,w3⟩;have Ur:∀p∈[(b8,({cls:=.type "list",data:=.seq az.toArray nn}:Obj))],p.1∉fp:=λp hp=>by
   have e:=by simpa using hp
   rw[e];exact ù
  have Ip:aG (cT X scope N Y) [(b8,({cls:=.type "list",data:=.seq az.toArray nn}:Obj))] (sel js σ) H3 s3:=I3.pins_of λp hp=>by
   have e:=by simpa using hp
   subst e;exact⟨ea,na3,Zl,λz=>absurd (Xh _ z) (abC _),λv z=>by cases z⟩
  rcases turn i n ys H3 w3 with⟨stop,p⟩|⟨go,xv,Nx,Ă,step⟩
  ·refine abr (T.done (cT X scope N Y) rfl rfl rfl hc i _ s3 _ H3 (λ_ _=>False) Ip (Zq fr3 Ur) Ul stop) (λr s4 hr4=>?_) λ_ _ z=>z;obtain⟨hr,J4⟩:=hr4;subst hr;have pa:=(J4.pin (b8,({cls:=.type "list",data:=.seq az.toArray nn}:Obj)) (aaM _ aae)).1;have u:Un (EL X.stack) fp H (dz H3 b8 (.lst ys)) s2.heap s4.heap:=
    ⟨J4.base.keep,J4.base.slot,λb o e nb hx=>by rw[bB (below b (by rw[←hAg];exact aaF e)).2];exact J4.base.free b o e nb hx,J4.base.there,
     λb xs e=>by rw[bB (cH e GI)];exact J4.base.tups b xs e,λb o w' e=>by rw[bB (cH e GI)];exact J4.base.frzs b o w' e,λb ps e=>by rw[bB (cH e GI)];exact J4.base.tbls b ps e⟩
   have hok:lX X.prog X.w (dz H3 b8 (.lst ys)) s4.heap:=λb o e=>by
    by_cases hb:b=b8
    ·subst hb;rw[bD] at e;cases e;exact⟨hz3,az,nn,rv3,pa⟩
    ·rw[bB hb] at e;refine (J4.hok b o e).stay (λ_ _ _ q=>q) (λc q=>?_) λc xs q=>?_
     ·rw[bB (cH q na3)];exact q
     ·rw[bB (cH q na3)];exact q
   have Zs:=I.call' J4.os u hok J4.bare λb hb=>⟨(f2 b hb).2.2.2.1,(f2 b hb).2.1,(f2 b hb).2.2.2.2.1,(f2 b hb).2.2.2.2.2⟩;have ns4:∃m,s4.heap.Ns C m:=by obtain⟨m,hn,_⟩:=J4.loc;exact⟨m,hn⟩
   exact hR b8 C ys H3 s4 Zs ns4 (I.fpOk (by rw[hAg];exact wF) (by rw[bB (Ne.symm Zl)];exact J4.free)) na3 p
  ·refine abr (T.item (cT X scope N Y) rfl rfl rfl hc i _ s3 _ H3 (λ_ _=>False) Ip (Zq fr3 Ur) Ul go) (λr s4 h4=>?_) λ_ _ z=>z;obtain⟨u,hr,h4⟩:=h4;subst hr;refine abr h4 (λ_ s5 h5=>?_) λ_ _ z=>z;obtain⟨x,H5,I5,r5,y5,È,å⟩:=h5;have YX:=I5.pinned (Zq å Ur) (T.obj _ _ È);refine abr (hg _ s5 _ H5 x u _ YX r5 (step x H5 y5)) (λ_ s6 h6=>?_) λ_ _ z=>z;obtain⟨Û,H6,I6,q6⟩:=h6;refine abr (ht _ s6 Û H6 _ I6 q6) (λb s7 h7=>?_) λ_ _ z=>z;obtain⟨H7,I7,q7⟩:=h7;have Xj:∀{H8:Hp} {Ô:St} {s8:aaE},aG (cT X scope N Y) ([(b8,({cls:=.type "list",data:=.seq az.toArray nn}:Obj))]++yz fp s5.heap) Ô H8 s8->
     s8.heap.get? b8=some ({cls:=.type "list",data:=.seq az.toArray nn}:Obj)/\H8 b8=none/\(∀b∈fp,H8 b=none)/\(∀b∈fp,∀o,s5.heap.get? b=some o->s8.heap.get? b=some o):=λ{H8 Ô s8} K=>by
    have q:=K.pin (b8,({cls:=.type "list",data:=.seq az.toArray nn}:Obj)) (aaM _ (abn _ aae));refine⟨q.1,q.2.1,λb hb=>?_,λb hb o e=>(K.pin (b,o) (aaM _ (aaM _ (k_ hb e)))).1⟩;obtain⟨o,e,d⟩:=T.obj _ _ È b hb;exact (K.pin (b,o) (aaM _ (aaM _ (k_ hb e)))).2.1
   have MG:∀{H8:Hp} {Ô:St} {s8:aaE} {pl:List (aaL×Obj)},aG (cT X scope N Y) pl Ô H8 s8->aG (cT X scope N Y) [] Ô H8 s8:=λK=>K.pins_of λp hp=>absurd hp (by simp);cases b with
   |false=>
    obtain⟨m',hm,w7⟩:=Ă _ _ q7;obtain⟨p1,p2,p3,p4⟩:=Xj I7;exact⟨m',hm,i+1,ys,az,H7,Ò (MG I7),T.keep _ _ _ È p4,p3,p2,⟨nn,p1⟩,rv3,hz3,w7⟩
   |true=>
    refine abr (he _ s7 Û H7 _ I7 q7) (λv s8 h8=>?_) λ_ _ z=>z;obtain⟨y,H8,I8,r8,q8⟩:=h8;obtain⟨m',hm,w8⟩:=Ă _ _ q8;obtain⟨p1,p2,p3,p4⟩:=Xj I8;refine wpAny_list_append_plain ⟨nn,p1⟩ (λh' pl' sb=>?_) (by rw[aaz,←rv3.length];exact hz3);obtain⟨f0,f1,ý,f3,f4,f5⟩:=Zo (pl:=[]) p2 (by simp);have I9:=(MG I8).turned (t':=s8.toks) (λb o hb e=>(sb.2 b hb).trans e) f0 f1 f3 f4 f5;refine⟨m',hm,i+1,ys++[y],az++[v],H8,Ò I9,T.keep _ _ _ È (λb hb o e=>(sb.2 b (λz=>ù (z▸hb))).trans (p4 b hb o e)),p3,p2,?_,rv3.append (.cons r8 .nil),?_,w8⟩
    ·rw[show (az++[v]).toArray=az.toArray.push v from by simp];exact pl'
    ·rw[aay];exact xv
 exact codeAny_compStart_list (Ù _) (T.self _ _ _ _ _ (T.keep _ _ _ qm (λb hb o e=>Β b o e)) (Ù _))
theorem sL {k9:ae3}(I:aG X ċ σ H s)(S:mD k9 X.N scope N js)(nF:X.env.scope=k9) :
  ∃cl:List (Str×aaL),closureFor scope X.env=pure cl/\(∀x c,cl.lookup x=some c->X.env.cells.lookup x=some c)/\∀x,(x,NameKind.free)∈scope.names->∃c,cl.lookup x=some c:=
 CS λx hx=>I.ok.has x (by
  have:=S.free x hx;rw[←nF] at this;exact this)
theorem Le {pos:Pos}{g:t8->TG}{tt:t8->TT}{te:t8->TE}(k9:ae3)(NX N:List Str)(js:List (Option Nat))(hc:X.calm=true)(hi:PI X tg iter wi)(Af:∀Y:t8,PG (cT X scope N Y) tg (g Y)/\G2 (cT X scope N Y) wW (tt Y)/\PE (cT X scope N Y) Μ (te Y))(nF:X.env.scope=k9:=by rfl)(Pz:X.N=NX:=by rfl)(hS:nP k9 NX scope N js=true:=by decide+kernel)(hs:∀x,ab3 iter X.env x=pure x:=by intro _;rfl):PE X (.ListComp Μ [⟨tg,iter,wW,0⟩] scope pos) (Xr wi js g tt te):=by
 intro ċ s σ H Q I h;have S:mD k9 X.N scope N js:=by rw[Pz];exact nP.to hS
 obtain⟨cl,e1,e2,e3⟩:=sL I S nF;refine wpAny_comprehension_free rfl hs e1 S.kind S.loc (fg (hi ċ s σ H _ I h) λv s1 h1=>fg h1 λXJ s2 h2=>?_);obtain⟨it,fp,tn,J,H2,e,I2,T,qm,f2,q⟩:=h2;subst e;refine sJ I2 hc T qm f2 Af S nF e2 e3 q ?_;intro b8 C ys H' s' I' ns fC na p;obtain⟨m,hn⟩:=ns;obtain⟨f0,f1,ý,f3,f4,f5⟩:=fC;exact⟨m,hn,λh' sb=>⟨.ref b8,_,I'.turned (λb o hb e=>(sb.2 b hb).trans e) f0 f1 f3 f4 f5,rfl,p b8 na⟩⟩
theorem HL {pos jR lW:Pos}{g:t8->TG}{tt:t8->TT}{te:t8->TE}(k9:ae3)(NX N:List Str)(js:List (Option Nat))(hN:X.N.Nodup)(hx:X.N[i]? = some x)(hl:MX X.env.scope x)(hc:X.calm=true)(hi:PI X tg iter wi)(Af:∀Y:t8,PG (cT X scope N Y) tg (g Y)/\G2 (cT X scope N Y) wW (tt Y)/\PE (cT X scope N Y) Μ (te Y))(nF:X.env.scope=k9:=by rfl)(Pz:X.N=NX:=by rfl)(hS:nP k9 NX scope N js=true:=by decide+kernel)(hw:adO (.ListComp Μ [⟨tg,iter,wW,0⟩] scope lW) (some (.Name x jR)) pos.line X.env=pure true:=by rfl)(hf:X.fn x=true\/X.env.scope.names.lookup x=some .local:=by first|exact .inl rfl|exact .inr rfl|assumption)(hs:∀x,ab3 iter X.env x=pure x:=by intro _;rfl) :
  PS X (.Assign [.Name x jR] (.ListComp Μ [⟨tg,iter,wW,0⟩] scope lW) pos) (Ir (Xr wi js g tt te) (Ax i)):=by
 intro ċ s σ H D I h;have S:mD k9 X.N scope N js:=by rw[Pz];exact nP.to hS
 obtain⟨cl,e1,e2,e3⟩:=sL I S nF;rw[exec_Assign_Name_used _ _ _ _ hw];refine aab (ae4 (aab ?_));refine aab (abr (wpAny_comprehension_free rfl hs e1 S.kind S.loc
  (fg (hi ċ s σ H _ I h) λv s1 h1=>fg h1 λXJ s2 h2=>?_)) (λ_ s' hq=>aah (aah hq)) λ_ _ e=>e)
 obtain⟨it,fp,tn,J,H2,e,I2,T,qm,f2,q⟩:=h2;subst e;refine sJ I2 hc T qm f2 Af S nF e2 e3 q ?_;intro b8 C ys H' s' I' ns fC na p;obtain⟨m,hn⟩:=ns;obtain⟨f0,f1,ý,f3,f4,f5⟩:=fC;refine wpAny_assign_Name (xx I' hN hx hl (v:=.ref b8) rfl (λRf I'' sbx=>?_) hf);obtain⟨a,sb,ha⟩:=sbx;have aC:C≠a:=by
  rcases ha with ha|ha
  ·rw[ha];exact f1
  ·exact λz=>f4 x a ha z.symm
 refine⟨m,hn.sameBut sb aC,λh' sb'=>⟨_,_,I''.turned (λb o hb e=>(sb'.2 b hb).trans e) f0 f1 f3 f4 f5,?_⟩⟩;exact p b8 na
end L2
namespace L2
section
variable {e:ab6}{pos:Pos}{b1 b2 b3 p:Bool}{m me:Md}{gi:Ev->R (List U×Ev)}{gt:Ev->R (Bool×Ev)}{ge:Ev->R (U×Ev)}
theorem b_ (k9:ae3)(NX N:List Str)(js:List (Option Nat))(hc:X.calm=true)(hi:DI X G tg iter b1 p gi)(Af:∀Y:t8,DG (cT X scope N Y) (wR G js) tg sg/\Jt (cT X scope N Y) (wR G js) wW false gt/\DE (cT X scope N Y) (wR G js) Μ false me ge)(hn:me≠.P:=by decide)(ok:qy js=true:=by rfl)(nF:X.env.scope=k9:=by rfl)(Pz:X.N=NX:=by rfl)(hS:nP k9 NX scope N js=true:=by decide+kernel)(hs:∀x,ab3 iter X.env x=pure x:=by intro _;rfl):DE X G (.ListComp Μ [⟨tg,iter,wW,0⟩] scope pos) b1 .O (eU gi js sg gt ge):=⟨(Le k9 NX N js hc hi.un (λY=>⟨(Af Y).1.un,(Af Y).2.1.un,(Af Y).2.2.un⟩) nF Pz hS hs).to λ_ _ _=>AS ok hn⟩
theorem uj (k9:ae3)(NX N:List Str)(js:List (Option Nat))(hc:X.calm=true)(hi:DI X G tg iter b1 false gi)(Af:∀Y:t8,DG (cT X scope N Y) (wR G js) tg sg/\Jt (cT X scope N Y) (wR G js) wW b2 gt/\DE (cT X scope N Y) (wR G js) Μ b3 me ge)(hn:me≠.P:=by decide)(ok:qy js=true:=by rfl)(nF:X.env.scope=k9:=by rfl)(Pz:X.N=NX:=by rfl)(hS:nP k9 NX scope N js=true:=by decide+kernel)(hs:∀x,ab3 iter X.env x=pure x:=by intro _;rfl):DE X G (.ListComp Μ [⟨tg,iter,wW,0⟩] scope pos) true .O (C5 G gi js sg gt ge):=⟨(Le k9 NX N js hc hi.un (λY=>⟨(Af Y).1.un,(Af Y).2.1.un,(Af Y).2.2.un⟩) nF Pz hS hs).to λ_ _ _=>Js ok hn⟩
variable {jR lW:Pos}
theorem jx (k9:ae3)(NX N:List Str)(js:List (Option Nat))(hN:X.N.Nodup)(hc:X.calm=true)(hi:DI X G tg iter b1 p gi)(Af:∀Y:t8,DG (cT X scope N Y) (wR G js) tg sg/\Jt (cT X scope N Y) (wR G js) wW false gt/\DE (cT X scope N Y) (wR G js) Μ false me ge)(hx:X.N[i]? = some x:=by rfl)(hl:MX X.env.scope x:=by first|exact Or.inl rfl|exact Or.inr rfl)(c:G.is i=false:=by rfl)(hn:me≠.P:=by decide)(ok:qy js=true:=by rfl)(nF:X.env.scope=k9:=by rfl)(Pz:X.N=NX:=by rfl)(hS:nP k9 NX scope N js=true:=by decide+kernel)(hw:adO (.ListComp Μ [⟨tg,iter,wW,0⟩] scope lW) (some (.Name x jR)) pos.line X.env=pure true:=by rfl)(hf:X.fn x=true\/X.env.scope.names.lookup x=some .local:=by first|exact .inl rfl|exact .inr rfl|assumption)(hs:∀x,ab3 iter X.env x=pure x:=by intro _;rfl):DS X G m (.Assign [.Name x jR] (.ListComp Μ [⟨tg,iter,wW,0⟩] scope lW) pos) (bg i (eU gi js sg gt ge)):=⟨(HL k9 NX N js hN hx hl hc hi.un (λY=>⟨(Af Y).1.un,(Af Y).2.1.un,(Af Y).2.2.un⟩) nF Pz hS hw hf hs).to λ_ _ _=>AR c (by decide) λ_ _ _=>AS ok hn⟩
end
end L2
namespace L2
open Hc.Zp
theorem BI {prog:adf}{w:ac2}{A:abd}{E:aao->aaE->Prop}{s:aaE}{Q:Option PySem.Fin×PUnit->aaE->Prop}{xs:Array aao}{k:Int}{t:Tok}{j:Nat}(hj:∃t',xs[j]? = some (.int k t'))(hn:∀i,i<j->∃n t',xs[i]? = some (.int n t')/\n≠k)
  (q:Q (some (.done (.ret (.int j s.toks))),()) {s with toks:=s.toks+1}):∀(m i:Nat),i<=j->j<i+m->aaT (aaX prog w) A (forIn (List.range' i m) ((none,()):Option PySem.Fin×PUnit) λ(i:Nat) __s=>match xs[i]? with
      |some y=>do
       let __do_lift ←eqBool y (Value.int k t)
       if __do_lift=true then do
         let __do_lift ←retInt (i:Int)
         pure (ForInStep.done (some __do_lift,()))
        else pure (ForInStep.yield (none,()))
      |x=>pure (ForInStep.yield (none,()))) Q E s
 |0,i,h1,h2=>by lia
 |m+1,i,h1,h2=>by
  rw[List.range'_succ,aej];by_cases c:i=j
  ·subst c;obtain⟨t',e⟩:=hj;rw[e];refine aab (aab (aeU ?_));rw[hZ (by simp)];refine aab (aab (wpAny_mkInt (aah (aah (aah q)))))
  ·obtain⟨n,t',e,ne⟩:=hn i (by lia);rw[e];refine aab (aab (aeU ?_));rw[hV (by simpa using ne)];exact aah (BI hj hn q m (i+1) (by lia) (by lia))
theorem HM (a:aaL)(items:Array aao)(n:Nat)(dd:Option aaL)(sl:Array (Option aao))(k:Int)(t:Tok)(j:Nat)(hj:∃t',items[j]? = some (.int k t'))(hn:∀i,i<j->∃n t',items[i]? = some (.int n t')/\n≠k):Meets (Builtin.«tuple.index» ⟨[.ref a,.int k t],[]⟩) (λA R s=>s.heap.get? a=some {cls:=.type "tuple",dict:=dd,data:=.seq items n,slots:=sl}/\R (.ok (.ret (.int j s.toks))) {s with toks:=s.toks+1}):=
 .of_wp λprog w A R s h=>by
  obtain⟨hl,h⟩:=h;have lt:j<items.size:=by
   obtain⟨t',e⟩:=hj;exact (abm.mp e).1
  unfold Builtin.«tuple.index»;simp only[Std.Legacy.Range.forIn_eq_forIn_range'];refine aab (adx rfl ?_);wp_walk using acp hl;refine BI hj hn ?_ _ 0 (abU _) ?_
  ·exact aah ⟨_,rfl,h⟩
  simp[*]
noncomputable def HN (k:Int):Nat->List U->Option Nat
 |_,[]=>none
 |i,.int j::us=>if j=k then some i else HN k (i+1) us
 |_,_=>none
theorem FZ {k:Int}{j:Nat}:∀(us:List U) (i:Nat),HN k i us=some j->∃m,j=i+m/\us[m]? = some (.int k)/\∀q,q<m->∃n,us[q]? = some (.int n)/\n≠k
 | [],i,h=>by cases h
 |u::us,i,h=>by
  cases u with
  |int n=>
   have h:(if n=k then some i else HN k (i+1) us)=some j:=h;split at h
   ·rename_i c;cases h;exact⟨0,rfl,by rw[←c];rfl,λq hq=>by lia⟩
   ·rename_i c;obtain⟨m,rfl,h2,h3⟩:=FZ us (i+1) h;refine⟨m+1,by lia,h2,λq hq=>?_⟩;cases q with
    |zero=>exact⟨n,rfl,c⟩
    |succ q=>exact h3 q (by lia)
  |_=>cases h
def D0:U->U->R U:=λu w=>match u,w with
 | .tup us,.int k=>match HN k 0 us with
  |some i=>.ok (.int i)
  |none=>.stk
 |_,_=>.stk
def YF:V->List V->Hp->VK->Prop:=λx vs H Q=>∃(a:aaL) (xs:List V) (k:Int) (j:Nat),x=.ref a/\H a=some (.tup xs)/\vs=[.int k]/\xs[j]? = some (.int k)/\(∀q,q<j->∃n,xs[q]? = some (.int n)/\n≠k)/\Q (.int j) H
def Lf (g1:Ev->R (U×Ev))(ga:Ev->R (List U×Ev)):Ev->R (U×Ev):=λρ=>(g1 ρ).bind λx=>(ga x.2).bind λy=>match y.1 with
 | [w]=>(D0 x.1 w).bind λz=>.ok (z,y.2)
 |_=>.stk
section
variable {e e2:ab6}{b1 b2:Bool}{m m1:Md}{g1:Ev->R (U×Ev)}{ga:Ev->R (List U×Ev)}{fA μ:Pos}
theorem Lg:Nk X "tuple.index" YF:=by
 intro ċ s σ H x vs v us Q I rx rv h;obtain⟨a,xs,k,j,rfl,ha,rfl,h1,h2,q⟩:=h;cases rx;cases rv with
 |cons r rr=>
  cases rr;obtain⟨t,rfl⟩:=r;obtain⟨az,rv,ht,hz⟩:=I.tuple (iG.of ha);obtain⟨⟨c,dd,dt,sl⟩,ho,hc,n,hd⟩:=id ht;subst hc hd;have el:∀(i:Nat) (n:Int),xs[i]? = some (.int n)->∃t',az.toArray[i]? = some (.int n t'):=λi n e=>by
   obtain⟨u,h3,t',h4⟩:=rv.get e;exact⟨t',by rw[←h4];simpa using h3⟩
  exact adb afS ⟨_,ho,rfl⟩ PySem.F.entry_tuple_index (PySem.F.args_tuple_index_2 _ _) (HM a _ n dd sl k t j (el j k h1) λi hi=>by
   obtain⟨n,e1,e2⟩:=h2 i hi;obtain⟨t',e3⟩:=el i n e1;exact⟨n,t',e3,e2⟩) ⟨ho,.int j,H,I.tok _,⟨_,rfl⟩,q⟩
theorem Lh (h:DE X G e b1 m1 g1)(ha:DA X G [e2] b2 false ga)(hn:m1≠.P:=by decide)(wB:adH e "index" X.env (adM e X.env)=adM e X.env:=by rfl)
  (EE:((acy μ (aaN [e2] X.env)).all (λx=> !x.1)&&(backToKw μ (aey [] X.env)).all (λx=>x.1.isSome)
   && decide ([e2].length+([]:List aed).length+(if ([]:List aed).isEmpty then 0 else 1)<30))=true:=by rfl)
  (wC:(fA.endLine==μ.line)=true:=by rfl) (hs:aaN [e2] X.env=(false,adM e2 X.env)::aaN [] X.env:=by rfl) (oJ:(acy μ (aaN [] X.env)).any (·.1)=false:=by rfl) :
  DE X G (.Call (.Attribute e "index" fA) [e2] [] μ) (b1||b2) .S (Lf g1 ga):=⟨(IJ PySem.F.plainAttrs_tuple afS PySem.F.type_tuple_index Lg h.un ha.un wB EE wC hs oJ).to λσ H Q θ=>by
 obtain⟨Z,A,ρ,q,f⟩:=θ;refine⟨Z,A,ρ,q,?_⟩;obtain⟨⟨u,η⟩,e1,f⟩:=f.bind;obtain⟨⟨ws,ν⟩,e2,f⟩:=f.bind;dsimp only at e2 f;split at f
 ·obtain⟨z,e3,f⟩:=f.bind;rw[e1];intro v H1 q1 x1 s1 vm;unfold D0 at e3;split at e3
  ·rename_i us k _;split at e3
   ·rename_i j hj;cases e3;obtain⟨j',ej,h1,h2⟩:=FZ us 0 hj;rw[abw] at ej;subst ej;have p:=vm.rp hn;have p':=p;obtain⟨a,xs,rfl,ha,_,_⟩:=p';refine⟨.inr (.inl ⟨rfl,.inr ⟨xs,ha⟩⟩),Z,A,η,q1,?_⟩;rw[e2];intro vs H2 q2 x2 s2 rA;have r:=rA.rps;obtain⟨v2,vr,rfl,r1,r2⟩:=r;subst r2;have r3:=r1.pk.int;subst r3;have p2:=p.re q1.mu x2 λb z=>.inl z;obtain⟨a',Î,ea,Ie,_,z2⟩:=p2;cases ea;have el:∀(i:Nat) (n:Int),us[i]? = some (.int n)->Î[i]? = some (.int n):=λi n e=>by
     obtain⟨x,hx,px⟩:=z2.get e;rw[hx,px.pk.int]
    exact⟨a,Î,k,j,rfl,Ie,rfl,el _ _ h1,λi hi=>by
     obtain⟨n,e4,e5⟩:=h2 i hi;exact⟨n,el _ _ e4,e5⟩,f _ H2 q2 (x1.trans x2) (two s1 s2) (yL.ofS dJ)⟩
   ·cases e3
  ·cases e3
 ·exact f.elim⟩
end
end L2
namespace L2
open Hc.Dw Hc.Ts
theorem pR:∀{vs:List aao} {ns:List Int},aeg vs ns->∀(i:Nat) (v:aao),vs[i]? = some v->∃t,v=.int (ns.getD i 0) t
 |_,_,.nil,i,v,h=>by simp at h
 |_,_,.cons n t r,i,v,h=>by
  cases i with
  |zero=>simp at h;exact⟨t,by rw[←h];rfl⟩
  |succ i=>
   obtain⟨t',e⟩:=pR r i v (by simpa using h);exact⟨t',by rw[e];simp[List.getD]⟩
end L2
namespace L2
open Hc.Dw Hc.Ts
theorem BJ {p:aaL}{xs:Array aao}(pt:s.heap.IsTuple p xs)(hh:X.A.handled=none):p<s.heap.objs.size/\p≠s.heap.objs.size/\(∀b∈[s.heap.objs.size,p],b<(s.heap.push {cls:=.type "tuple_iterator",data:=.fields #[.ref p,.int 0 0]}).objs.size):=by
 have lp:p<s.heap.objs.size:=by obtain⟨o,e,_⟩:=pt;exact aaF e
 refine⟨lp,aaW lp,λb hb=>?_⟩;rw[ab7];simp only[aaA,acJ,or_false] at hb;rcases hb with rfl|rfl
 ·exact aeX _
 ·exact acT lp
def QR (K:aam):List V->Hp->VK->Prop:=λxs H Q=>∃p n0 ns,xs=[.ref p]/\iG K H p ((n0::ns).map V.int)/\Q (.int (s9 n0 ns)) H
theorem HP (hc:X.calm=true):eW X (.builtin "max") (QR X.K):=by
 intro ċ s σ H xs us Q I r h;obtain⟨p,n0,ns,rfl,hs,q⟩:=h;obtain⟨u,rfl,rx⟩:=i9 r;cases rx;obtain⟨az,rv,pl,_⟩:=I.tuple hs;have hI:=f9 rv;have sz:az.toArray.size=ns.length+1:=by rw[aaz,hI.length];rfl
 have pt:=pl;have hh:=I.ok.hd hc;obtain⟨lp,np,fb⟩:=BJ pt hh;refine call_max_walk (aeb pt ?_);refine⟨s.heap.objs.size,[s.heap.objs.size,p],[s.heap.objs.size],az.toArray.size,_,_,λi j=>decide ((n0::ns).getD i 0>(n0::ns).getD j 0),rfl,Walks.tuple (A:=X.A.in1) (hh) _ p np _,?_,fb,by lia,?_,?_⟩
 ·obtain⟨o,e,z⟩:=pt;exact⟨⟨_,aas _ rfl,rfl,rfl⟩,o,aak _ e,z⟩
 ·exact CmpOf.ints_gt _ λi v hv=>pR hI i v (by simpa using hv)
 ·intro v h' tk hv kp;obtain⟨t,rfl⟩:=pR hI _ v (by rw[←List.getElem?_toArray];exact hv);have k:=λb o e=>kp b o (by
   rw[aau];exact aaW (aaF e)) (aak _ e)
  rw[sz,Nat.add_sub_cancel,vD ns n0 _ (aaq _),abj];exact⟨.int _,H,I.kept k,⟨t,rfl⟩,q⟩
def BK:List U->R U:=λus=>match us with
 | [.tup xs]=>match jr xs with
  |some (n::ns)=>.ok (.int (s9 n ns))
  |_=>.stk
 |_=>.stk
theorem Li:lT K (QR K) .S BK:=λA H vs us z Q h mu e q=>by
 unfold BK at e;split at e
 ·split at e
  ·rename_i n ns hb;cases e;obtain⟨v,rfl,p⟩:=h.one;obtain⟨a,ys,rfl,h1,l1,r1⟩:=p;rw[lu hb] at r1;rw[r1.toI] at h1;exact⟨a,n,ns,rfl,iG.of h1,q _ H (aO.refl _) (show Rp K H A _ _ from dJ)⟩
  ·cases e
 ·cases e
def QS (K:aam):List V->Hp->VK->Prop:=λxs H Q=>∃p ns,xs=[.ref p]/\iG K H p (ns.map V.int)/\qI ns=true/\Q (.int ns.sum) H
theorem HQ (hc:X.calm=true):eW X (.builtin "sum") (QS X.K):=by
 intro ċ s σ H xs us Q I r h;obtain⟨p,ns,rfl,hs,sm,q⟩:=h;obtain⟨u,rfl,rx⟩:=i9 r;cases rx;obtain⟨az,rv,pl,_⟩:=I.tuple hs;have hI:=f9 rv;have sz:az.toArray.size=ns.length:=by rw[aaz,hI.length]
 have pt:=pl;have hh:=I.ok.hd hc;obtain⟨lp,np,fb⟩:=BJ pt hh;unfold qI at sm;rw[aaC] at sm;have s1:=of_decide_eq_true sm.1;have al:=sm.2;refine call_sum_walk (aeb pt ?_);refine⟨s.heap.objs.size,[s.heap.objs.size,p],[s.heap.objs.size],az.toArray.size,_,_,λi=>ns.getD i 0,rfl,Walks.tuple (A:=X.A.in1) (hh) _ p np _,?_,fb,(λi v hv=>pR hI i v (by simpa using hv)),(λj hj=>?_),λh' tk t' kp=>?_⟩
 ·obtain⟨o,e,z⟩:=pt;exact⟨⟨_,aas _ rfl,rfl,rfl⟩,o,aak _ e,z⟩
 ·rw[sz] at hj;refine⟨?_,?_⟩
  ·have:=of_decide_eq_true (aaK.mp al ns[j] (aaU hj));unfold InLong;simp only[List.getD,aad hj,ae1];lia
  ·rw[mB ns (j+1) (by lia)];have XQ:((ns.take (j+1)).all _)=true:=aaK.mpr λx hx=>aaK.mp al x (acw hx);obtain⟨p1,p2⟩:=yj XQ;grind[aa2,InLong]
 ·have k:=λb o e=>kp b o (by
   rw[aau];exact aaW (aaF e)) (aak _ e)
  rw[sz,mB ns ns.length (aaq _),abj];exact⟨.int ns.sum,H,I.kept k,⟨t',rfl⟩,q⟩
def BL:List U->R U:=λus=>match us with
 | [.tup xs]=>match jr xs with
  |some ns=>if qI ns=true then .ok (.int ns.sum) else .stk
  |none=>.stk
 |_=>.stk
theorem Lj:lT K (QS K) .S BL:=λA H vs us z Q h mu e q=>by
 unfold BL at e;split at e
 ·split at e
  ·rename_i ns hb;split at e
   ·rename_i hl;cases e;obtain⟨v,rfl,p⟩:=h.one;obtain⟨a,ys,rfl,h1,l1,r1⟩:=p;rw[lu hb] at r1;rw[r1.toI] at h1;exact⟨a,ns,rfl,iG.of h1,hl,q _ H (aO.refl _) (show Rp K H A _ _ from dJ)⟩
   ·cases e
  ·cases e
 ·cases e
end L2
namespace HT
section
variable {A:abd}
theorem D2 (n:Nat):ab0 ((n:Int)-1) (-1) (-1)=n:=by
 unfold ab0;lia
theorem BM {α β:Type}{f g:α->Option β}:∀{l:List α},(∀x∈l,f x=g x)->l.filterMap f=l.filterMap g
 | [],_=>rfl
 |x::l,h=>by rw[acB,acB,h x aae,BM λy hy=>h y (aai _ hy)]
theorem Ll (xs:List aao):((aax xs.length).filterMap λ(m:Nat)=>xs.toArray[(((xs.length:Int)-1)+(m:Int)*(-1)).toNat]?).toArray=xs.reverse.toArray:=by
 congr 1;have e:(aax xs.length).filterMap (λ(m:Nat)=>xs.toArray[(((xs.length:Int)-1)+(m:Int)*(-1)).toNat]?)=(aax xs.length).filterMap λm=>xs.reverse[m]? := by
  refine BM λm hm=>?_;have hm:=aaH.mp hm;rw[List.getElem?_reverse hm,List.getElem?_toArray];congr 1;lia
 rw[e];have:∀l:List aao,(aax l.length).filterMap (λm=>l[m]?)=l:=λl=>by
  induction l with
  |nil=>rfl
  |cons x l ih=>
   rw[aaw,adg,acB];rw[List.filterMap_map];exact congrArg _ ih
 have:=this xs.reverse
 rwa [ac4] at this
theorem getItem_tuple_rev {t:aaL}{items:List aao}{vs:aao}(ht:IsTup s.heap t items.toArray)(hs:s.heap.IsSliceOf sl .none .none vs)(ps:IsPart vs (some (-1)))(h:Q (.ref s.heap.objs.size) {s with heap:=s.heap.push {cls:=.type "tuple",data:=.seq items.reverse.toArray}})(hsz:items.length<=aaf):aaT (aaX prog w) A (aew (.ref t) (.ref sl)) Q E s:=by
 have Mx:=by
  show items.reverse.toArray.size<=aaf;rw[aaz,ac4];exact hsz
 obtain⟨os,Υ,Ï,MV⟩:=id hs;have WS:s.TypeIs (.ref sl) "slice":=⟨os,Υ,Ï⟩;unfold aew
 try with_reducible refine abx ?_
 refine aab (afL ht.typeIs (by decide) ?_);refine aab (aa7 ht.typeIs abA
  (aa4 abA ht.typeIs afc ?_ (afw _ _)))
 show aaT _ _ (acG (.ref t) >>= _) _ _ s;refine aab (tupleItemsOf_ ht ?_);refine aab (ad5 WS ?_);have ap:∀(Q:Int×Int×Nat->aaE->Prop),Q _ s->aaT (aaX prog w) A.in1 (afm (.ref sl) (pure _)) Q E s:=λQ hq=>by
  refine aab (aab (abD Υ MV rfl (aab (abD Υ MV rfl (aab (abD Υ MV rfl (aah ?_)))))));refine aab (oe ps ?_);show aaT _ _ (pure (((items.toArray.size:Nat):Int)-1,(-1:Int),ab0 (((items.toArray.size:Nat):Int)-1) (-1) (-1))) _ _ s;rw[D2,aaz];exact aah hq
 refine aab (ap _ ?_);show aaT _ _ (if ((((items.length:Int)-1)==0&&(-1:Int)==1&&items.length==items.toArray.size))=true then _ else _) _ _ s;rw[hV (by rw[show ((-1:Int)==1)=false from rfl,aeG];exact aaB),Ll]
 first
  |exact aab (abc (aah ⟨_,rfl,aah h⟩) Mx)
  |exact aab _
  |exact aab _
  |exact aab _
end
end HT
namespace L2
section
variable {e:ab6}{pos p2 p3 p4:Pos}{kk:Nat}{b1:Bool}{m1:Md}{g1:Ev->R (U×Ev)}
def Wh (te:TE):TE:=λσ H Q=>te σ H λx H1=>∃a xs,x=.ref a/\H1 a=some (.tup xs)/\∀p,H1 p=none->Q (.ref p) (dz H1 p (.tup xs.reverse))
theorem Ou (he:PE X e te):PE X (.Subscript e (.Slice none none (some (.UnaryOp .USub (.Constant (.int 1) kk p3) p4)) p2) pos) (Wh te):=by
 intro ċ s σ H Q I h;refine Subscript_ (fg (he ċ s σ H _ I h) λv s1 ⟨x,H1,I1,r1,a,xs,ex,hx,q1⟩=>?_);subst ex;cases r1;refine wpAny_Slice ?_;refine aah (aah ?_);refine fg (EV (PF CK CD) ċ s1 σ H1 (λo H'=>o=some (-1)/\H'=H1) I1 ⟨1,rfl,-1,rfl,rfl,rfl⟩) λvk s3 ⟨o,H3,I3,pk,e1,e2⟩=>?_;subst e1 e2;have I4:aG X ċ σ H3 {s3 with heap:=s3.heap.push {cls:=.type "slice",data:=.fields #[.none,.none,vk]}}:=I3.kept λb ob q=>aak _ q;obtain⟨az,r,ht,hz⟩:=I4.tuple (iG.of hx);have jS:=r.length;refine tail_any ht.typeIs PyProof.Rows.slot_tuple_getitem.lookup ?_ (by rfl);refine HT.getItem_tuple_rev ht (Heap.IsSliceOf.new ..) pk ?_ (by lia);refine⟨.ref _,_,I4.laid (λb ob q=>aak _ q) (aaq _) ?_,rfl,q1 _ (I4.hok.fresh (aaq _))⟩;exact⟨by rw[ac4];exact hz,az.reverse,K6 r,⟨_,aas _ rfl,rfl,_,rfl⟩,_,aas _ rfl⟩
noncomputable def F1 (g:Ev->R (U×Ev)):Ev->R (U×Ev):=λρ=>(g ρ).bind λx=>match x.1 with
 | .tup us=>.ok (.tup us.reverse,x.2)
 |_=>.stk
theorem Ov (h:DE X G e b1 m1 g1)(hn:m1≠.P:=by decide):DE X G (.Subscript e (.Slice none none (some (.UnaryOp .USub (.Constant (.int 1) kk p3) p4)) p2) pos) b1 .S (F1 g1):=⟨(Ou h.un).to λσ H Q θ=>by
 obtain⟨Z,A,ρ,q,f⟩:=θ;obtain⟨⟨u,η⟩,e1,f⟩:=f.bind;refine⟨Z,A,ρ,q,?_⟩;rw[e1];intro v H1 q1 x1 s1 vm;dsimp only at f;split at f
 ·have pk:=vm.rp hn;obtain⟨a,xs,rfl,d,l,r⟩:=pk;refine⟨a,xs,rfl,d,λp hn=>?_⟩;have sm:=cD hn (.tup xs.reverse);exact f _ _ (q1.same sm) (x1.trans (fU.same sm)) (og s1 sm) (yL.ofS (mQ (FV r) hn (by rw[ac4];exact l)))
 ·exact f.elim⟩
end
end L2
namespace L2
theorem D3 (l:aaL)(az:Array aao)(n:Nat)(u:Tok):Meets (Builtin.«tuple.__mul__» ⟨[.ref l,.int 1 u],[]⟩) (λ_ R s=>s.heap.get? l=some {cls:=.type "tuple",data:=.seq az n}/\R (.ok (.ret (.ref l))) s):=
 .of_wp λprog w A R s h=>by
  obtain⟨hl,h⟩:=h;wp_walk;exact⟨_,rfl,h⟩
def QT:R2:=λx y H Q=>∃(p:aaL) (xs:List V),x=.ref p/\y=.int 1/\H p=some (.tup xs)/\Q (.ref p) H
theorem Ow:jT X (acQ .Mult) QT:=by
 intro ċ s σ H x y v u Q I rx ry h;obtain⟨p,xs,rfl,rfl,hp,q⟩:=h;obtain rfl:v=Value.ref p:=rx;obtain⟨tk,rfl⟩:∃t,u=.int 1 t:=ry;obtain⟨hz,az,rv,_,n0,ho⟩:xs.length<=aaf/\∃az:List aao,bf xs az/\IsTup s.heap p _/\∃n,s.heap.get? p=some _:=I.hok p _ hp;exact adS (by decide) ⟨_,ho,rfl⟩ (λs'=>ae_ s' 1 tk) kE aeO acm pB PySem.F.slot_int_index.lookup
  (adb acm (ae_ s 1 tk) aer (ael _ _) (uU 1 tk p _ n0)
   ⟨ho,rfl,⟨_,ho,rfl⟩,adb afW ⟨_,ho,rfl⟩ PySem.F.entry_tuple_mul (afQ _ _) (D3 p _ n0 tk) ⟨ho,.ref p,H,I,rfl,q⟩⟩)
def QU:R2:=λx y H Q=>JR x y H Q\/QT x y H Q
def Ox:jT X (acQ .Mult) QU:=N5.or Ow
def F2:U->U->R U:=λu w=>match u,w with
 | .tup us,.int n=>if n=1 then .ok (.tup us) else JS (.tup us) (.int n)
 |_,_=>.stk
theorem Ln:fV K QU .S F2:=λA H x y u w z Q hx hy mu e q=>by
 unfold F2 at e;split at e
 ·split at e
  ·rename_i c;subst c;cases e;obtain⟨a,xs,rfl,h1,l1,r1⟩:=hx;subst hy;exact .inr ⟨a,xs,rfl,rfl,h1,q _ H (aO.refl _) (show Rp K H A _ _ by exact⟨a,xs,rfl,h1,l1,r1⟩)⟩
  ·exact .inl (JT A H x y _ _ z Q hx hy mu e q)
 ·cases e
end L2
noncomputable section
namespace Hc
open PySem L2
abbrev oy:Gm:=⟨[false,false,false],false,λ_=>False⟩
def gj:Ev->SR:=(aD (bg 0 (fi Ha (b1x 0)))
 (aD (bg 1 (fi Ha (b1x 1)))
 (aD (l7 (gB (aR (je not) (ag 1) (zqc 0)))
 (aD (bg 2 (aR uN (ag 0) (ag 1)))
 (aD (bg 0 (ag 1))
 (bg 1 (ag 2)))) 1000000000000000)
 (bx (ag 0)))))
def bX:List U->R U:=cZ .S 3 gj
abbrev Oy:Gm:=⟨[false,false,false],false,λ_=>False⟩
def zy:Ev->SR:=(aD (bg 2 (eo 2 bX (yqa 0 1)))
 (aD (j_ (gB (aR Xv (ag 1) (zqc 0))) (bg 2 (Vp Jx (ag 2))) bU)
 (bx (bQ (af (aR jb (ag 0) (ag 2)) (af (aR jb (ag 1) (ag 2)) aq))))))
def j1:List U->R U:=cZ .S 3 zy
abbrev S7:Gm:=⟨[false,false],false,λ_=>False⟩
def D4:Ev->SR:=(bx (eo 2 j1 (af (aR iM (aR ja (zqb 0 0) (zqb 1 1)) (aR ja (zqb 1 0) (zqb 0 1))) (af (aR ja (zqb 0 1) (zqb 1 1)) aq))))
def vJ:List U->R U:=cZ .S 2 D4
abbrev Oz:Gm:=⟨[false,false,false],false,λ_=>False⟩
def vK:Ev->SR:=(bg 1 (eo 2 vJ (yqa 1 2)))
def zA:Ev->SR:=(aD (bg 1 (bQ (af (zqc 0) (af (zqc 1) aq))))
 (aD (iu (cP (ag 0)) (ba 2)
 vK)
 (bx (ag 1))))
def lD:List U->R U:=cZ .S 3 zA
abbrev s_:Gm:=⟨[false,false,false],false,λ_=>False⟩
def kI:Ev->SR:=(bg 1 (aR jb (aR ja (ag 1) (zqb 2 1)) (eo 2 bX (af (ag 1) (af (zqb 2 1) aq)))))
def iX:Ev->SR:=(aD (bg 1 (zqc 1))
 (aD (iu (cP (ag 0)) (ba 2)
 kI)
 (bx (ag 1))))
def dA:List U->R U:=cZ .S 3 iX
abbrev QV:Gm:=⟨[false,true,false,false],false,λ_=>False⟩
def F3:Nat->Ev->SR
 |0=>λ_=>.stk
 |n+1=>let r_own:=cZ .S 4 (F3 n)
  (aD (j_ (gB (A6 "list" (ag 0))) (bx (eU (cP (ag 0)) [none] (ba 0) bO (eo 1 r_own (b1x 0)))) bU)
 (aD (j_ (gB (A6 "tuple" (ag 0))) (bx (fi bJ (af (eU (cP (ag 0)) [none] (ba 0) bO (eo 1 r_own (b1x 0))) aq))) bU)
 (aD (j_ (gB (A6 "dict" (ag 0))) (aD (bg 1 PZ)
 (aD (iu (V7 (ag 0)) (bL 2 (ay (ba 2) (ay (ba 3) bT)))
 (rH 1 (eo 1 r_own (b1x 3)) (ag 2)))
 (bx (ag 1)))) bU)
 (bx (ag 0)))))
def BN (n:Nat):List U->R U:=cZ .S 4 (F3 n)
abbrev D5:Gm:=⟨[false,false],false,λ_=>False⟩
def oz:Ev->SR:=(bx (fi bJ (af (eU (cP (ag 1)) [none,some 0] (ba 0) bO (aR dq (ag 1) (ag 0))) aq)))
def cv:List U->R U:=cZ .S 2 oz
abbrev S8:Gm:=⟨[false,false],false,λ_=>False⟩
def D6:Ev->SR:=(bx (fi bJ (af (eU (cP (ag 1)) [none,some 0] (ba 0) bO (eo 1 (BN 20) (af (aR dq (ag 1) (ag 0)) aq))) aq)))
def qL:List U->R U:=cZ .S 2 D6
abbrev S9:Gm:=⟨[false,false],false,λ_=>False⟩
def D7:Ev->SR:=(bx (eo 2 cv (yqa 0 1)))
def km:List U->R U:=cZ .S 2 D7
abbrev S_:Gm:=⟨[false],false,λ_=>False⟩
def D8:Ev->SR:=(bx (fi bJ (af (eU (gG (af (fi gy (b1x 0)) aq)) [none,some 0] (ba 0) bO (Lf (ag 1) (b1x 0))) aq)))
def oA:List U->R U:=cZ .S 1 D8
abbrev HU:Gm:=⟨[false,true,false],false,λ_=>False⟩
def qM:Ev->SR:=(aD (bg 1 PZ)
 (aD (iu (cP (ag 0)) (ba 2)
 (om 1 (aR iM (lA 1 (ag 2) (zqc 0)) (zqc 1)) (ag 2)))
 (bx (ag 1))))
def kJ:List U->R U:=cZ .O 3 qM
abbrev Lo:Gm:=⟨[false,false,true,false,false,false,false,false],false,λ_=>False⟩
def qN:Ev->SR:=(aD (bg 7 (eo 2 cv (yqa 5 3)))
 (om 2 (aR iM (lA 2 (ag 7) (zqc 0)) (aR ja (ag 6) (ag 4))) (ag 7)))
def qO:Ev->SR:=(iu (V7 (ag 0)) (bL 2 (ay (ba 5) (ay (ba 6) bT)))
 qN)
def vL:Ev->SR:=(aD (bg 2 PZ)
 (aD (iu (V7 (eo 1 kJ (b1x 1))) (bL 2 (ay (ba 3) (ay (ba 4) bT)))
 qO)
 (bx (ag 2))))
def mE:List U->R U:=cZ .O 8 vL
abbrev tj:Gm:=⟨[false,false,false,true,false,false,false],false,λ_=>False⟩
def iz:Ev->SR:=(aD (bg 6 (aR dq (ag 5) (ag 1)))
 (om 3 (aR ja (zqb 6 0) (aR jb (ag 2) (zqb 6 1))) (ag 4)))
def iY:Ev->SR:=(aD (bg 2 (eo 1 dA (af (eU (cP (ag 0)) [none,none,some 1] (bL 2 (ay (ba 0) (ay (ba 1) bT))) bO (aR dq (ag 1) (ag 2))) aq)))
 (aD (bg 3 PZ)
 (aD (iu (cP (ag 0)) (bL 2 (ay (ba 4) (ay (ba 5) bT)))
 iz)
 (vt 3 (bx (bQ (yqa 3 2)))))))
def ez:List U->R U:=cZ .S 7 iY
abbrev D9:Gm:=⟨[false,true,false,false,true,false],false,λ_=>False⟩
def j2:Ev->SR:=(jW (gM "list" 1 ud (af (fi vH (b1x 2)) aq)))
def j3:Ev->SR:=(jW (gM "list" 4 eZ (af (bQ (af (ag 5) (af (fi bJ (af (eU (cP (ag 0)) [none,none,some 5] (bL 2 (ay (ba 0) (ay (ba 1) bT))) bO (eo 2 j1 (af (lA 0 (ag 2) (zqc 0)) (b1x 1)))) aq)) aq))) aq)))
def oB:Ev->SR:=(aD (bg 1 (i_ aq))
 (aD (iu (cP (ag 0)) (bL 2 (ay (ba 2) (ay (ba 3) bT)))
 j2)
 (vt 1 (aD (bg 4 (i_ aq))
 (aD (iu (cP (fi kH (b1x 1))) (ba 5)
 j3)
 (bx (fi bJ (b1x 4))))))))
def gm:List U->R U:=cZ .S 6 oB
abbrev OA:Gm:=⟨[false],false,λ_=>False⟩
def zB:Ev->SR:=(bx (eo 1 gm (af (eU (cP (ag 0)) [none] (ba 0) bO (bQ (af (UC 0 1) (af (zqc 1) aq)))) aq)))
def pS:List U->R U:=cZ .S 1 zB
abbrev vM:Gm:=⟨[false],false,λ_=>False⟩
def jy:Ev->SR:=(bx (A8 (af (fi gy (af (aR dq (zqb 0 0) (zqc 1)) aq)) aq)))
def c6:List U->R U:=cZ .O 1 jy
abbrev xh:Gm:=⟨[false,false,true,false,false],false,λ_=>False⟩
def gL:Ev->SR:=(aD (bg 4 (eo 2 ez (yqa 0 3)))
 (jW (gM "list" 2 eZ (af (bQ (af (eo 2 mE (af (zqb 4 0) (b1x 1))) (af (aR ja (zqb 4 1) (fi gy (b1x 1))) aq))) aq))))
def kn:Ev->SR:=(aD (bg 2 (i_ aq))
 (aD (iu (cP (eo 1 c6 (b1x 0))) (ba 3)
 gL)
 (vt 2 (bx (eo 1 gm (b1x 2))))))
def cA:List U->R U:=cZ .S 5 kn
abbrev vN:Gm:=⟨[false,false,true,false,false,false],false,λ_=>False⟩
def jz:Ev->SR:=(aD (bg 2 PZ)
 (aD (BD 2 (yn 2 (cP (ag 0)) (bL 2 (ay (ba 3) (ay (ba 4) bT)))
 (aD (BG 2 (ba 5) (eo 2 cv (yqa 3 1)))
 (aD (Lb 2 (ag 5) (yo 2 0 (ag 5)) bU)
 (K8 2 (DY 2 (vG 2) (ag 5)) (bQ (yqa 3 4)))))))
 (vt 2 (bx (eU (cP (fi vC (b1x 2))) [none,some 2] (ba 0) bO (bQ (af (ag 0) (af (fi bJ (af (aR Ba (ag 1) (ag 0)) aq)) aq))))))))
def cB:List U->R U:=cZ .O 6 jz
abbrev HV:Gm:=⟨[false],false,λ_=>False⟩
def qP:Ev->SR:=(bx (eU (cP (eo 1 c6 (b1x 0))) [none,some 0] (ba 0) bO (eo 1 lD (af (eU (cP (ag 1)) [none,none,some 0] (bL 2 (ay (ba 0) (ay (ba 1) bT))) bO (aR dq (ag 1) (ag 2))) aq))))
def jk:List U->R U:=cZ .O 1 qP
abbrev tm:Gm:=⟨[false,false],false,λ_=>False⟩
def iZ:Ev->SR:=(bx (fi Hd (af (eU (cP (eo 2 cB (yqa 0 1))) [none,none] (bL 2 (ay (ba 0) (ay (ba 1) bT))) bO (aR (je id) (fi jw (af (eo 1 jk (b1x 1)) aq)) (zqc 1))) aq)))
def cJ:List U->R U:=cZ .S 2 iZ
abbrev vO:Gm:=⟨[false,false,false,false],false,λ_=>False⟩
def fq:Nat->Ev->SR
 |0=>λ_=>.stk
 |n+1=>let r_depth_in:=cZ .S 4 (fq n)
  (aD (j_ (gB (aR (je id) (zqb 0 0) (gC (.str "end")))) (bx (zqc 0)) bU)
 (aD (j_ (yM (gB (aR (je id) (zqb 0 0) (gC (.str "mix")))) (gB (aR (An id) (zqb 0 1) (ag 1)))) (bg 2 (i_ (af (zqb 0 2) aq))) (j_ (yM (gB (aR (je id) (zqb 0 0) (gC (.str "look")))) (gB (aR (je id) (fi gy (af (zqb 0 1) aq)) (zqc 1)))) (bg 2 (eU (cP (zqb 0 2)) [none] (ba 0) bO (zqb 0 1))) (bx (gC .non))))
 (aD (bg 3 (eU (cP (ag 2)) [none,some 1] (ba 0) bO (eo 2 r_depth_in (yqa 0 1))))
 (aD (j_ (gB (aR (An id) (gC .non) (ag 3))) (bx (gC .non)) bU)
 (bx (aR iM (zqc 1) (fi yk (b1x 3))))))))
def aW (n:Nat):List U->R U:=cZ .S 4 (fq n)
abbrev zC:Gm:=⟨[false,false,true,false,false,false,false],false,λ_=>False⟩
def eI:Ev->SR:=(aD (j_ (yM (gB (aR Xx (zqb 6 0) (zqc 0))) (gB (aR (An not) (aR dq (ag 2) (ag 5)) (bQ (af (gC .non) (af (aR dq (ag 3) (ag 1)) aq)))))) (bx (gC .non)) bU)
 (j_ (gB (aR Xx (zqb 6 0) (zqc 0))) (rH 2 (aR dq (ag 3) (ag 1)) (ag 5)) bU))
def fY:Ev->SR:=(iu (KD (b1x 4)) (bL 2 (ay (ba 5) (ay (ba 6) bT)))
 eI)
def jf:Ev->SR:=(aD (bg 2 (aR FU (i_ (af (gC .non) aq)) (fi gy (af (aR dq (zqb 0 0) (zqc 1)) aq))))
 (aD (iu (cP (ag 0)) (bL 2 (ay (ba 3) (ay (ba 4) bT)))
 fY)
 (bx (fi bJ (b1x 2)))))
def cQ:List U->R U:=cZ .S 7 jf
abbrev BO:Gm:=⟨[false,false,false,true,false,false,false],false,λ_=>False⟩
def jg:Ev->SR:=(aD (bg 5 (fi bJ (af (eU (cP (ag 1)) [none,some 4] (ba 0) bO (aR dq (ag 0) (ag 1))) aq)))
 (aD (bg 6 (eU (gG (af (fi gy (b1x 2)) aq)) [none,some 5,some 3,some 2] (ba 0) (yM (gB (aR (NL id) (aR dq (ag 3) (ag 0)) (ag 1))) (gB (aR (An not) (ag 0) (ag 2)))) (ag 0)))
 (aD (j_ (gB (aR (je id) (fi gy (b1x 6)) (zqc 0))) (bx (gC .non)) bU)
 (jW (gM "list" 3 eZ (af (zqb 6 0) aq))))))
def mF:Ev->SR:=(aD (bg 2 (eU (gG (af (fi gy (af (aR dq (zqb 0 0) (zqc 0)) aq)) aq)) [none,some 0] (ba 0) bO (eo 2 cQ (yqa 1 0))))
 (aD (bg 3 (i_ aq))
 (aD (iu (gG (af (fi gy (af (zqb 1 0) aq)) aq)) (ba 4)
 jg)
 (bx (bQ (af (gC (.str "end")) (af (fi bJ (b1x 3)) aq)))))))
def cC:List U->R U:=cZ .S 7 mF
abbrev nQ:Gm:=⟨[false,false,false,false,false,false,true,false,false,false],false,λ_=>False⟩
abbrev pT:Gm:=⟨[false,false,false,false,false,false],false,λ_=>False⟩
abbrev nR:Gm:=⟨[false,false,false,false,false,false,false],false,λ_=>False⟩
mutual
noncomputable def eJ:Nat->Ev->SR
 |0=>λ_=>.stk
 |n+1=>let r_plan_within:=cZ .S 7 (eK n)
  (aD (j_ (Jh (gB (eo 2 cJ (af (ag 0) (af (bQ (b1x 1)) aq))))) (bx (gC .non)) bU)
 (aD (bg 5 (eo 2 cB (af (ag 0) (af (bQ (b1x 1)) aq))))
 (aD (j_ (gB (aR (je id) (fi gy (b1x 5)) (zqc 1))) (bx (gC .non)) bU)
 (aD (bg 6 (i_ aq))
 (aD (iu (cP (ag 5)) (bL 2 (ay (ba 7) (ay (ba 8) bT)))
 (aD (bg 9 (eo 4 r_plan_within (af (ag 8) (af (ag 2) (af (ag 3) (af (aR qz (ag 4) (zqc 1)) aq))))))
 (aD (j_ (gB (aR (l_ id) (ag 9) (gC .non))) (bx (gC .non)) bU)
 (jW (gM "list" 6 eZ (af (bQ (yqa 7 9)) aq))))))
 (bx (bQ (af (gC (.str "look")) (af (bQ (b1x 1)) (af (fi bJ (b1x 6)) aq))))))))))
noncomputable def gN:Nat->Ev->SR
 |0=>λ_=>.stk
 |n+1=>let r_plan_within:=cZ .S 7 (eK n)
  (aD (bg 5 (eo 4 r_plan_within (af (eo 2 cA (yqa 0 1)) (af (ag 2) (af (ag 3) (af (aR qz (ag 4) (zqc 1)) aq))))))
 (bx (Xs (gB (aR (l_ id) (ag 5) (gC .non))) (gC .non) (bQ (af (gC (.str "mix")) (yqa 1 5))))))
noncomputable def eK:Nat->Ev->SR
 |0=>λ_=>.stk
 |n+1=>let r_look_within:=cZ .S 10 (eJ n)
  let r_mix_within:=cZ .S 6 (gN n)
  (aD (bg 4 (eo 2 cC (yqa 0 1)))
 (aD (j_ (Vn (gB (aR (l_ not) (ag 4) (gC .non))) (gB (aR (je id) (ag 3) (zqc 0)))) (bx (ag 4)) bU)
 (aD (iu (gG (af (fi gy (af (aR dq (zqb 0 0) (zqc 0)) aq)) aq)) (ba 5)
 (aD (bg 4 (eo 5 r_look_within (af (ag 0) (af (ag 5) (af (ag 1) (yqa 2 3))))))
 (j_ (gB (aR (l_ not) (ag 4) (gC .non))) (bx (ag 4)) bU)))
 (aD (j_ (gB (aR (je id) (ag 3) (zqc 1))) (bx (gC .non)) bU)
 (aD (iu (cP (ag 2)) (ba 6)
 (aD (bg 4 (eo 5 r_mix_within (af (ag 0) (af (ag 6) (af (ag 1) (yqa 2 3))))))
 (j_ (gB (aR (l_ not) (ag 4) (gC .non))) (bx (ag 4)) bU)))
 (bx (gC .non)))))))
end
def bK (n:Nat):List U->R U:=cZ .S 10 (eJ n)
def bF (n:Nat):List U->R U:=cZ .S 6 (gN n)
def aF (n:Nat):List U->R U:=cZ .S 7 (eK n)
abbrev Lp:Gm:=⟨[false,false,false,false,false,false,false],false,λ_=>False⟩
def fK:Ev->SR:=(aD (bg 6 (eo 4 (aF 20) (af (ag 3) (af (ag 4) (yqa 1 5)))))
 (j_ (gB (aR (l_ not) (ag 6) (gC .non))) (bx (ag 6)) bU))
def vQ:Ev->SR:=(aD (bg 3 (eo 1 pS (af (eU (cP (ag 0)) [none,none] (bL 2 (ay (ba 0) (ay (ba 1) bT))) bO (ag 0)) aq)))
 (aD (bg 4 (eU (cP (ag 0)) [none,none] (bL 2 (ay (ba 0) (ay (ba 1) bT))) bO (ag 1)))
 (aD (iu (gG (af (aR iM (ag 2) (zqc 1)) aq)) (ba 5)
 fK)
 (bx (gC .non)))))
def jA:List U->R U:=cZ .S 7 vQ
abbrev vR:Gm:=⟨[false,false],false,λ_=>False⟩
def gO:Ev->SR:=(aD (j_ (gB (aR Xv (ag 1) (fi gy (b1x 0)))) (bx (aR dq (ag 0) (ag 1))) bU)
 (bx (zqc 0)))
def dX:List U->R U:=cZ .S 2 gO
abbrev zD:Gm:=⟨[false,false,false],false,λ_=>False⟩
def jh:Ev->SR:=(aD (bg 2 (eo 2 dX (yqa 0 1)))
 (aD (j_ (gB (aR Yr (ag 2) (aR NK (zqc 10) (zqc 18)))) (bx (i_ (af (aR qz (ag 2) (aR NK (zqc 10) (zqc 18))) (af (gC (.bl true)) aq)))) bU)
 (bx (i_ (af (aR uN (ag 2) (zqc 2147483647)) (af (gC (.bl false)) aq))))))
def gP:List U->R U:=cZ .O 3 jh
abbrev BP:Gm:=⟨[true,false,false,false],true,λ_=>False⟩
def j4:Ev->SR:=(aD (j_ (gB (zqb 0 1)) (aD (bg 2 (aR uN (zqb 0 0) (ag 1)))
 (aD (rH 0 (aR jb (zqb 0 0) (ag 1)) (zqc 0))
 (bx (ag 2)))) bU)
 (aD (rH 0 (aR uN (aR iM (aR ja (zqb 0 0) (zqc 48271)) (zqc 29)) (zqc 2147483647)) (zqc 0))
 (aD (bg 3 (aR uN (aR iM (aR iM (aR ja (zqb 0 0) (zqb 0 0)) (aR ja (zqc 39373) (zqb 0 0))) (zqc 7)) (zqc 2147483629)))
 (aD (bg 3 (aR uN (aR iM (aR ja (ag 3) (ag 3)) (aR ja (zqc 16807) (ag 3))) (zqc 2147483587)))
 (bx (aR uN (aR jb (ag 3) (zqc 8)) (ag 1)))))))
def aK:List U->R (U×U):=C6 4 j4
abbrev lE:Gm:=⟨[true,false,true],true,λ_=>False⟩
def lF:Ev->SR:=(aD (bg 2 (A8 (b1x 1)))
 (bx (fi bJ (af (C5 lE (gG (b1x 1)) [none,some 2,some 0] (ba 0) bO (gM "list" 1 qC (af (qx 2 2 aK (af (fi gy (b1x 1)) aq)) aq))) aq))))
def bM:List U->R (U×U):=C6 3 lF
abbrev vS:Gm:=⟨[false,false,false,true,false,false,false],false,λ_=>False⟩
def i4:Ev->SR:=(aD (Se 5 6 (af (aR dq (ag 1) (aR ja (zqc 2) (ag 4))) (af (aR dq (ag 1) (aR iM (aR ja (zqc 2) (ag 4)) (zqc 1))) aq)))
 (aD (rH 3 (ag 6) (ag 5))
 (rH 3 (ag 5) (ag 6))))
def jB:Ev->SR:=(aD (bg 3 (A8 (b1x 0)))
 (aD (iu (gG (af (fi uP (af (ag 2) (af (aR jb (ag 0) (zqc 2)) aq))) aq)) (ba 4)
 i4)
 (bx (bQ (af (Fg (b1x 0)) (af (fi bJ (b1x 3)) aq))))))
def ft:List U->R U:=cZ .S 7 jB
abbrev jC:Gm:=⟨[true,false,true,false,false,false,false,false],true,λ_=>False⟩
def cg:Ev->SR:=(aD (bg 4 (qx 2 0 bM (b1x 1)))
 (aD (bg 5 (aR dq (i_ (af (zqc 2) (af (zqc 2) (af (aR jb (ag 1) (zqc 2)) (af (aR iM (zqc 1) (qx 2 0 aK (b1x 1))) aq))))) (qx 2 0 aK (af (zqc 4) aq))))
 (aD (bg 6 (Fg (b1x 1)))
 (aD (bg 7 (qx 2 0 aK (af (zqc 4) aq)))
 (j_ (yM (gB (aR (je id) (ag 7) (zqc 0))) (gB (yN Xw Xw (zqc 2) (ag 1) (zqc 6)))) (jW (gM "list" 2 eZ (af (fi bJ (af (eU (gG (b1x 1)) [none,some 6] (ba 0) bO (aR iM (MO yT (ag 1) (l6 (ag 0)) nH) (MO yT (ag 1) nH (l6 (ag 0))))) aq)) aq))) (j_ (gB (aR (je id) (ag 7) (zqc 1))) (jW (gM "list" 2 eZ (af (bQ (yqa 6 4)) aq))) (j_ (gB (aR (je id) (ag 7) (zqc 2))) (jW (gM "list" 2 eZ (af (fi bJ (af (C5 jC (gG (af (aR iM (zqc 1) (qx 2 0 aK (af (zqc 3) aq))) aq)) [none,some 0,some 1] (ba 0) bO (qx 2 1 bM (b1x 2))) aq)) aq))) (jW (gM "list" 2 eZ (af (eo 3 ft (af (ag 1) (af (ag 4) (af (fi AX (af (zqc 1) (af (fi uP (af (ag 5) (af (aR jb (ag 1) (zqc 2)) aq))) aq))) aq)))) aq))))))))))
def jD:Ev->SR:=(aD (bg 2 (i_ aq))
 (aD (iu (gG (af (aR iM (zqc 1) (qx 2 0 aK (af (zqc 3) aq))) aq)) (ba 3)
 cg)
 (bx (fi bJ (b1x 2)))))
def gQ:List U->R (U×U):=C6 8 jD
abbrev eA:Gm:=⟨[true,false,true,false,false,false,false,false,true,false],true,λ_=>False⟩
def cU:Ev->SR:=(aD (bg 4 (fi bJ (af (C5 eA (gG (b1x 1)) [none,some 0] (ba 0) bO (qx 2 1 aK (af (zqc 2) aq))) aq)))
 (aD (j_ (gB (aR (je id) (qx 2 0 aK (af (zqc 5) aq)) (zqc 0))) (bg 4 (fi bJ (af (C5 eA (gG (b1x 1)) [none,some 0] (ba 0) bO (qx 2 1 aK (af (zqc 4) aq))) aq))) bU)
 (j_ (gB (aR (An not) (ag 4) (ag 2))) (jW (gM "list" 2 eZ (b1x 4))) bU)))
def dY:Ev->SR:=(aD (bg 9 (fi bJ (af (eU (cP (ag 6)) [none,some 4] (ba 0) bO (aR dq (ag 1) (ag 0))) aq)))
 (aD (j_ (gB (aR (je id) (ag 7) (zqc 1))) (bg 9 (aR iM (MO yT (ag 9) nH (l6 (Vp Jx (zqc 1)))) (bQ (af (aR uN (fi BL (b1x 4)) (zqc 2)) aq)))) bU)
 (aD (j_ (gB (aR (je id) (ag 7) (zqc 2))) (bg 9 (aR F2 (bQ (af (fi BK (b1x 4)) aq)) (ag 5))) bU)
 (jW (gM "list" 8 eZ (af (bQ (yqa 4 9)) aq))))))
def i5:Ev->SR:=(aD (bg 2 (i_ aq))
 (aD (iu (gG (af (aR iM (zqc 1) (qx 2 0 aK (af (zqc 4) aq))) aq)) (ba 3)
 cU)
 (vt 2 (aD (bg 5 (aR iM (zqc 1) (qx 2 0 aK (af (fi uP (af (zqc 2) (b1x 1))) aq))))
 (aD (bg 6 (MO yT (qx 2 0 bM (b1x 1)) nH (l6 (ag 5))))
 (aD (bg 7 (qx 2 0 aK (af (zqc 4) aq)))
 (aD (bg 8 (i_ aq))
 (aD (iu (cP (ag 2)) (ba 4)
 dY)
 (bx (ag 8))))))))))
def f6:List U->R (U×U):=C6 10 i5
abbrev pV:Gm:=⟨[false,false,false,false],false,λ_=>False⟩
def gR:Ev->SR:=(aD (bg 3 (eo 3 jA (af (ag 0) (yqa 1 2))))
 (aD (j_ (gB (aR (l_ id) (ag 3) (gC .non))) (bx (gC .non)) bU)
 (bx (eo 2 (aW 20) (yqa 3 1)))))
def br:List U->R U:=cZ .S 4 gR
abbrev zE:Gm:=⟨[false,false,false,false,false,false,false],false,λ_=>False⟩
def lG:Ev->SR:=(aD (bg 4 (eo 3 br (af (ag 0) (yqa 1 3))))
 (aD (bg 5 (fi bJ (af (eU (cP (ag 1)) [none,some 2] (ba 0) bO (fi bJ (af (eU (cP (ag 0)) [none,some 1] (ba 0) bO (eo 2 km (af (eo 2 km (af (eo 1 oA (b1x 1)) (b1x 0))) (b1x 1)))) aq))) aq)))
 (aD (j_ (gB (aR (NL not) (eo 3 br (af (eU (cP (ag 0)) [none,none,some 2] (bL 2 (ay (ba 0) (ay (ba 1) bT))) bO (bQ (af (eo 2 qL (yqa 0 2)) (b1x 1)))) (yqa 5 3))) (ag 4))) (bx (gC (.bl false))) bU)
 (aD (j_ (gB (aR (NL not) (eo 3 br (af (eU (cP (ag 0)) [none,none] (bL 2 (ay (ba 0) (ay (ba 1) bT))) bO (bQ (af (ag 0) (af (F1 (ag 1)) aq)))) (yqa 1 3))) (ag 4))) (bx (gC (.bl false))) bU)
 (aD (j_ (gB (aR (NL not) (eo 3 br (af (aR Jw (MO yT (ag 0) (l6 (zqc 1)) nH) (MO yT (ag 0) nH (l6 (zqc 1)))) (yqa 1 3))) (ag 4))) (bx (gC (.bl false))) bU)
 (aD (bg 6 (eU (cP (ag 0)) [none,none] (bL 2 (ay (ba 0) (ay (ba 1) bT))) bO (bQ (af (fi bJ (af (eU (cP (ag 0)) [none] (ba 0) bO (aR qz (zqc 9) (ag 0))) aq)) (af (fi bJ (af (eU (cP (ag 1)) [none] (ba 0) bO (aR qz (zqc 9) (ag 0))) aq)) aq)))))
 (bx (aR (NL id) (eo 3 br (af (ag 6) (yqa 1 3))) (ag 4)))))))))
def ji:List U->R U:=cZ .S 7 lG
abbrev Wi:Gm:=⟨[false,false,true,false,false,false],false,λ_=>False⟩
def D_:Ev->SR:=(aD (bg 2 (eo 2 gP (yqa 0 1)))
 (aD (bg 3 (aR iM (zqc 1) (qx 2 2 aK (af (zqc 4) aq))))
 (aD (bg 4 (qx 2 2 f6 (b1x 3)))
 (aD (bg 5 (qx 2 2 gQ (b1x 3)))
 (j_ (Jh (gB (eo 4 ji (af (ag 4) (af (ag 5) (af (qx 2 2 bM (b1x 3)) (af (qx 2 2 aK (af (zqc 3) aq)) aq))))))) (bx (gC (.bl false))) bU)))))
def Lq:Ev->SR:=(aD (iu (gG (af (fi AX (af (zqc 1) (af (fi uP (af (fi gy (b1x 0)) (af (zqc 2) aq))) aq))) aq)) (ba 1)
 D_)
 (bx (gC (.bl true))))
def BQ:List U->R U:=cZ .S 6 Lq
end Hc
end
namespace Hc
open L2
abbrev cV:adN:=top 1
abbrev qQ:adN:=top 2
abbrev yp:adN:=top 3
abbrev qR:adN:=top 4
abbrev eL:adN:=top 5
abbrev zF:adN:=top 7
abbrev jE:adN:=top 8
abbrev vT:adN:=top 9
abbrev yq:adN:=top 10
abbrev vU:adN:=top 11
abbrev kK:adN:=top 13
abbrev m7:adN:=top 14
abbrev dN:adN:=top 16
abbrev jF:adN:=top 17
abbrev oC:adN:=top 18
abbrev fL:adN:=top 19
abbrev gu:adN:=top 20
abbrev d9:adN:=top 21
abbrev j5:adN:=top 22
abbrev d_:adN:=top 23
abbrev gT:adN:=top 25
abbrev iA:adN:=top 26
abbrev fM:adN:=top 27
abbrev fu:adN:=top 28
abbrev gq:adN:=top 29
abbrev fw:adN:=top 30
abbrev j6:adN:=top 31
abbrev iB:adN:=top 33
abbrev jl:adN:=top 34
abbrev kM:adN:=top 35
abbrev iC:adN:=top 36
abbrev fy:adN:=top 37
abbrev gw:adN:=top 38
abbrev dF:adN:=top 39
abbrev eM:adN:=top 40
abbrev cW:adN:=top 41
abbrev BR:adN:=top 42
abbrev Bd (x:Str)(ps:List Str)(s:adN):Prop:=∀(kV qk pm:aao) (an:Option aaL) (cY ct:aao) (us:List aao),us.length=ps.length->bindArgs (acb x x (gE s) (c_ s) (ao s) .none kV qk pm an cY ct) ⟨us,[]⟩=pure (ps.zip us)
theorem lU {P:List Str}{sc:ae3}(a:sc.kind=.function:=by rfl)(b:sc.isCoroutine=false:=by rfl)(c:sc.isGenerator=false:=by rfl)(d:N.Nodup:=by decide+kernel)(e:N.take P.length=P:=by rfl)(f:∀x∈P,sc.names.lookup x=some .local\/sc.names.lookup x=some .cell:=by decide+kernel)(g:∀y∈sc.names,y.2≠.free:=by decide+kernel):aI N P sc:=⟨a,b,c,d,e,f,g⟩
def rm {A:abd}(r:gD k A)(h:j<=k:=by first|decide|lia):gD j A:=r.mono h
def cf:aI ["one","other","rest"] ["one","other"] (ao cV):=lU
theorem nC:Bd "greatest_divisor" ["one","other"] cV:=λ_ _ _ _ _ _ us hl=>match us,hl with|[_,_],_=>rfl
def vV:aI ["top","bottom","divisor"] ["top","bottom"] (ao qQ):=lU
theorem Lr:Bd "ratio" ["top","bottom"] qQ:=λ_ _ _ _ _ _ us hl=>match us,hl with|[_,_],_=>rfl
def OB:aI ["one","other"] ["one","other"] (ao yp):=lU
theorem OC:Bd "plus" ["one","other"] yp:=λ_ _ _ _ _ _ us hl=>match us,hl with|[_,_],_=>rfl
def pW:aI ["some","result","fraction"] ["some"] (ao qR):=lU
theorem Ls:Bd "total" ["some"] qR:=λ_ _ _ _ _ _ us hl=>match us,hl with|[_],_=>rfl
def fN:aI ["some","bottom","fraction"] ["some"] (ao eL):=lU
theorem qT:Bd "common_bottom" ["some"] eL:=λ_ _ _ _ _ _ us hl=>match us,hl with|[_],_=>rfl
theorem vW:aI ["thing","copied","key","part"] ["thing"] (ao zF):=lU
theorem Lu:Bd "own" ["thing"] zF:=λ_ _ _ _ _ _ us hl=>match us,hl with|[_],_=>rfl
def BS:aI ["row","places"] ["row","places"] (ao jE):=lU
theorem BU:Bd "cards_at" ["row","places"] jE:=λ_ _ _ _ _ _ us hl=>match us,hl with|[_,_],_=>rfl
def OD:aI ["row","order"] ["row","order"] (ao vT):=lU
theorem OE:Bd "laid" ["row","order"] vT:=λ_ _ _ _ _ _ us hl=>match us,hl with|[_,_],_=>rfl
def OF:aI ["one","other"] ["one","other"] (ao yq):=lU
theorem OG:Bd "then" ["one","other"] yq:=λ_ _ _ _ _ _ us hl=>match us,hl with|[_,_],_=>rfl
def OH:aI ["order"] ["order"] (ao vU):=lU
theorem OI:Bd "back" ["order"] vU:=λ_ _ _ _ _ _ us hl=>match us,hl with|[_],_=>rfl
def oD:aI ["shuffle","often","order"] ["shuffle"] (ao kK):=lU
theorem Ea:Bd "counted" ["shuffle"] kK:=λ_ _ _ _ _ _ us hl=>match us,hl with|[_],_=>rfl
def iD:aI ["weights","shuffle","gathered","order","often","row","weight","changed"] ["weights","shuffle"] (ao m7):=lU
theorem HW:Bd "spread" ["weights","shuffle"] m7:=λ_ _ _ _ _ _ us hl=>match us,hl with|[_,_],_=>rfl
def cX:aI ["state","number","bottom","whole","row","weights","weight"] ["state","number"] (ao dN):=lU
theorem qV:Bd "whole_weights" ["state","number"] dN:=λ_ _ _ _ _ _ us hl=>match us,hl with|[_,_],_=>rfl
def gx:aI ["deals","rows","whole","bottom","state","row"] ["deals"] (ao jF):=lU
theorem BV:Bd "state_of" ["deals"] jF:=λ_ _ _ _ _ _ us hl=>match us,hl with|[_],_=>rfl
def Lv:aI ["rows"] ["rows"] (ao oC):=lU
theorem Lw:Bd "begun" ["rows"] oC:=λ_ _ _ _ _ _ us hl=>match us,hl with|[_],_=>rfl
def tq:aI ["state"] ["state"] (ao fL):=lU
theorem tw:Bd "deal_numbers" ["state"] fL:=λ_ _ _ _ _ _ us hl=>match us,hl with|[_],_=>rfl
def gU:aI ["state","shuffle","mixed","number","deal"] ["state","shuffle"] (ao gu):=lU
theorem vX:Bd "mixed_state" ["state","shuffle"] gu:=λ_ _ _ _ _ _ us hl=>match us,hl with|[_,_],_=>rfl
def eB:aI ["state","places","parts","row","weights","seen"] ["state","places"] (ao d9):=lU
theorem tE:Bd "looked_state" ["state","places"] d9:=λ_ _ _ _ _ _ us hl=>match us,hl with|[_,_],_=>rfl
def Eb:aI ["state"] ["state"] (ao j5):=lU
theorem Ec:Bd "sums_of" ["state"] j5:=λ_ _ _ _ _ _ us hl=>match us,hl with|[_],_=>rfl
def qW:aI ["state","places"] ["state","places"] (ao d_):=lU
theorem qX:Bd "is_quiet_look" ["state","places"] d_:=λ_ _ _ _ _ _ us hl=>match us,hl with|[_,_],_=>rfl
def iO:aI ["plan","menu","inner","depths"] ["plan","menu"] (ao gT):=lU
theorem sM:Bd "depth_in" ["plan","menu"] gT:=λ_ _ _ _ _ _ us hl=>match us,hl with|[_,_],_=>rfl
def eN:aI ["state","place","told","row","weights","number","weight"] ["state","place"] (ao iA):=lU
theorem xi:Bd "cards_told" ["state","place"] iA:=λ_ _ _ _ _ _ us hl=>match us,hl with|[_,_],_=>rfl
def fO:aI ["state","dues","told","places","number","due","fitting"] ["state","dues"] (ao fM):=lU
theorem zG:Bd "right_end" ["state","dues"] fM:=λ_ _ _ _ _ _ us hl=>match us,hl with|[_,_],_=>rfl
def c7:aI ["state","place","dues","menu","depth","parts","ways","seen","part","plan"] ["state","place","dues","menu","depth"] (ao fu):=lU
theorem mG:Bd "look_within" ["state","place","dues","menu","depth"] fu:=λ_ _ _ _ _ _ us hl=>match us,hl with|[_,_,_,_,_],_=>rfl
def ko:aI ["state","shuffle","dues","menu","depth","plan"] ["state","shuffle","dues","menu","depth"] (ao gq):=lU
theorem nU:Bd "mix_within" ["state","shuffle","dues","menu","depth"] gq:=λ_ _ _ _ _ _ us hl=>match us,hl with|[_,_,_,_,_],_=>rfl
def c8:aI ["state","dues","menu","depth","plan","place","shuffle"] ["state","dues","menu","depth"] (ao fw):=lU
theorem mH:Bd "plan_within" ["state","dues","menu","depth"] fw:=λ_ _ _ _ _ _ us hl=>match us,hl with|[_,_,_,_],_=>rfl
def kN:aI ["deals","menu","most","state","dues","depth","plan"] ["deals","menu","most"] (ao j6):=lU
theorem HX:Bd "fewest" ["deals","menu","most"] j6:=λ_ _ _ _ _ _ us hl=>match us,hl with|[_,_,_],_=>rfl
def tF:aI ["script","k"] ["script","k"] (ao iB):=lU
theorem tG:Bd "_law_cell_at" ["script","k"] iB:=λ_ _ _ _ _ _ us hl=>match us,hl with|[_,_],_=>rfl
def nV:aI ["script","k","cell"] ["script","k"] (ao jl):=lU
theorem xj:Bd "_law_state" ["script","k"] jl:=λ_ _ _ _ _ _ us hl=>match us,hl with|[_,_],_=>rfl
def jj:aI ["state","many","found","mixed"] ["state","many"] (ao kM):=lU
theorem zH:Bd "_law_take" ["state","many"] kM:=λ_ _ _ _ _ _ us hl=>match us,hl with|[_,_],_=>rfl
def nW:aI ["state","many","left"] ["state","many"] (ao iC):=lU
theorem xk:Bd "_law_order" ["state","many"] iC:=λ_ _ _ _ _ _ us hl=>match us,hl with|[_,_],_=>rfl
def cK:aI ["state","many","menu","k","order","size","stays","way"] ["state","many"] (ao fy):=lU
theorem tH:Bd "_law_menu_of" ["state","many"] fy:=λ_ _ _ _ _ _ us hl=>match us,hl with|[_,_],_=>rfl
def f7:aI ["many","order","size","found","k","one","other"] ["many","order","size"] (ao gw):=lU
theorem tJ:Bd "_law_crossed" ["many","order","size"] gw:=λ_ _ _ _ _ _ us hl=>match us,hl with|[_,_,_],_=>rfl
def aT:aI ["state","many","rows","k","row","size","places","way","deals","due"] ["state","many"] (ao dF):=lU
theorem qY:Bd "_law_deals_of" ["state","many"] dF:=λ_ _ _ _ _ _ us hl=>match us,hl with|[_,_],_=>rfl
def jG:aI ["deals","menu","most","plan"] ["deals","menu","most"] (ao eM):=lU
theorem oE:Bd "_law_depth_told" ["deals","menu","most"] eM:=λ_ _ _ _ _ _ us hl=>match us,hl with|[_,_,_],_=>rfl
def iI:aI ["deals","menu","order","most","depth","led","other"] ["deals","menu","order","most"] (ao cW):=lU
theorem xl:Bd "_law_alike" ["deals","menu","order","most"] cW:=λ_ _ _ _ _ _ us hl=>match us,hl with|[_,_,_,_],_=>rfl
def qZ:aI ["script","k","state","many","deals","menu"] ["script"] (ao BR):=lU
structure Txt (mg:Str->Option aao):Prop where
 ziq:mg "abs"=none
 zkq:mg "all"=none
 zgq:mg "dict"=none
 zbq:mg "enumerate"=none
 zaq:mg "isinstance"=none
 zhq:mg "len"=none
 zfq:mg "list"=none
 zmq:mg "max"=none
 zjq:mg "min"=none
 zeq:mg "range"=none
 znq:mg "set"=none
 zcq:mg "sorted"=none
 zlq:mg "sum"=none
 zdq:mg "tuple"=none
end Hc
namespace Hc
open L2
section
variable {base:ac5}
theorem nD (T:Txt mg)  (c9:Df K mg "greatest_divisor" cV):Fn P w K mg base "greatest_divisor" 1 ["one","other"] (fh K 2 bX .S):=by
 refine Df.fnD (N:=["one","other","rest"]) oy .S gj c9 cf nC rfl (by decide) ?_;intro f cY A Č s0 H E hr;exact (aj (aS cf.nd (bj Ay Fe (by rfl) T.ziq Ja (ae (ak 0) ai)))
 (aj (aS cf.nd (bj Ay Fe (by rfl) T.ziq Ja (ae (ak 1) ai)))
 (aj (Jq aa1 (bG U1 Oh (ak 1) au (bN _))
 (aj (aS cf.nd (bc lY jY (ak 0) (ak 1)))
 (aj (aS cf.nd (ak 1))
 (ar (aS cf.nd (ak 2))))))
 (ar (aP (ak 0))))))
theorem Lx (T:Txt mg)(cw:Fn P w K mg base "greatest_divisor" 1 ["one","other"] (fh K 2 bX .S))(qf:Df K mg "ratio" qQ):Fn P w K mg base "ratio" 2 ["top","bottom"] (fh K 2 j1 .S):=by
 refine Df.fnD (N:=["top","bottom","divisor"]) Oy .S zy qf vV Lr rfl (by decide) ?_;intro f cY A Č s0 H E hr;exact (aj (aS vV.nd (aB cw (rm hr) (ae (ak 0) (ae (ak 1) ai))))
 (aj (cE (bG PH Jy (ak 1) au (bN _)) (ar (aS vV.nd (PR CK Fb (ak 2)))) bE)
 (ar (aP (cO (ae (bc fI gH (ak 0) (ak 2)) (ae (bc fI gH (ak 1) (ak 2)) ai)))))))
theorem OJ (T:Txt mg)(nu:Fn P w K mg base "ratio" 2 ["top","bottom"] (fh K 2 j1 .S))(wG:Df K mg "plus" yp):Fn P w K mg base "plus" 3 ["one","other"] (fh K 2 vJ .S):=by
 refine Df.fnD (N:=["one","other"]) S7 .S D4 wG OB OC rfl (by decide) ?_;intro f cY A Č s0 H E hr;exact (ar (aP (aB nu (rm hr) (ae (bc df dg (bc gA eX (zqa 0) (zqa 1)) (bc gA eX (zqa 1) (zqa 0))) (ae (bc gA eX (zqa 0) (zqa 1)) ai)))))
theorem Ly (T:Txt mg)(EI:Fn P w K mg base "plus" 3 ["one","other"] (fh K 2 vJ .S))(qg:Df K mg "total" qR):Fn P w K mg base "total" 4 ["some"] (fh K 1 lD .S):=by
 refine Df.fnD (N:=["some","result","fraction"]) Oz .S zA qg pW Ls rfl (by decide) ?_;intro f cY A Č s0 H E hr;exact (aj (aS pW.nd (cO (ae au (ae au ai))))
 (aj (dk aa1 rfl (bH (ak 0)) (aw pW.nd)
 (ar (aS pW.nd (aB EI (rm hr) (ae (ak 1) (ae (ak 2) ai))))))
 (ar (aP (ak 1)))))
theorem q_ (T:Txt mg)(cw:Fn P w K mg base "greatest_divisor" 1 ["one","other"] (fh K 2 bX .S))(eD:Df K mg "common_bottom" eL):Fn P w K mg base "common_bottom" 2 ["some"] (fh K 1 dA .S):=by
 refine Df.fnD (N:=["some","bottom","fraction"]) s_ .S iX eD fN qT rfl (by decide) ?_;intro f cY A Č s0 H E hr;exact (aj (aS fN.nd au)
 (aj (dk aa1 rfl (bH (ak 0)) (aw fN.nd)
 (ar (aS fN.nd (bc fI gH (bc gA eX (ak 1) (zqa 2)) (aB cw (rm hr) (ae (ak 1) (ae (zqa 2) ai)))))))
 (ar (aP (ak 1)))))
theorem Ta (T:Txt mg)  (yy:Df K mg "own" zF):∀n,Fn P w K mg base "own" (n+1) ["thing"] (fh K 1 (BN n) .S):=by
 intro n
 induction n with
 |zero=>
  refine Df.fnD QV .S (F3 0) yy vW Lu rfl (by decide) ?_;intro f cY A Č s0 H E hr;exact ph
 |succ n wH=>
  refine Df.fnD (N:=["thing","copied","key","part"]) QV .S (F3 (n+1)) yy vW Lu rfl (by decide) ?_;intro f cY A Č s0 H E hr;exact (aj (cE (qw (yU (by decide) (ak 0) T.zaq T.zfq yF)) (ar (aP (b_ (ao zF) ["thing","copied","key","part"] ["part"] [none] rfl (bH (ak 0)) (λY=>⟨(aw (show (["part"]:List Str).Nodup by decide+kernel)),aV,(aB wH (rm hr) (ae (ak 0) ai))⟩)))) bE)
 (aj (cE (qw (yU (by decide) (ak 0) T.zaq T.zdq bC)) (ar (aP (bh aE bo (by rfl) T.zdq bC (ae (b_ (ao zF) ["thing","copied","key","part"] ["part"] [none] rfl (bH (ak 0)) (λY=>⟨(aw (show (["part"]:List Str).Nodup by decide+kernel)),aV,(aB wH (rm hr) (ae (ak 0) ai))⟩)) ai)))) bE)
 (aj (cE (qw (yU (by decide) (ak 0) T.zaq T.zgq Nu)) (aj (dD vW.nd md)
 (aj (dk aa1 rfl (vq (ak 0)) (eT rfl (aL (aw vW.nd) (aL (aw vW.nd) de)))
 (ar (mV (aB wH (rm hr) (ae (ak 3) ai)) (ak 2))))
 (ar (ub (hi:=by decide))))) bE)
 (ar (aP (ak 0))))))
theorem BW (T:Txt mg)  (jL:Df K mg "cards_at" jE):Fn P w K mg base "cards_at" 1 ["row","places"] (fh K 2 cv .S):=by
 refine Df.fnD (N:=["row","places"]) D5 .S oz jL BS BU rfl (by decide) ?_;intro f cY A Č s0 H E hr;exact (ar (aP (bh aE bo (by rfl) T.zdq bC (ae (b_ (ao jE) ["row","places"] ["place","row"] [none,some 0] rfl (bH (ak 1)) (λY=>⟨(aw (show (["place","row"]:List Str).Nodup by decide+kernel)),aV,(bp aM aN (ak 1) (ak 0) (λ_ _=>rfl))⟩)) ai))))
theorem OL (T:Txt mg)(wH:∀n,Fn P w K mg base "own" (n+1) ["thing"] (fh K 1 (BN n) .S))(wI:Df K mg "laid" vT):Fn P w K mg base "laid" 22 ["row","order"] (fh K 2 qL .S):=by
 refine Df.fnD (N:=["row","order"]) S8 .S D6 wI OD OE rfl (by decide) ?_;intro f cY A Č s0 H E hr;exact (ar (aP (bh aE bo (by rfl) T.zdq bC (ae (b_ (ao vT) ["row","order"] ["place","row"] [none,some 0] rfl (bH (ak 1)) (λY=>⟨(aw (show (["place","row"]:List Str).Nodup by decide+kernel)),aV,(aB (wH 20) (rm hr) (ae (bp aM aN (ak 1) (ak 0) (λ_ _=>rfl)) ai))⟩)) ai))))
theorem OM (T:Txt mg)(eh:Fn P w K mg base "cards_at" 1 ["row","places"] (fh K 2 cv .S))(wJ:Df K mg "then" yq):Fn P w K mg base "then" 2 ["one","other"] (fh K 2 km .S):=by
 refine Df.fnD (N:=["one","other"]) S9 .S D7 wJ OF OG rfl (by decide) ?_;intro f cY A Č s0 H E hr;exact (ar (aP (aB eh (rm hr) (ae (ak 0) (ae (ak 1) ai)))))
theorem ON (T:Txt mg)  (wK:Df K mg "back" vU):Fn P w K mg base "back" 1 ["order"] (fh K 1 oA .S):=by
 refine Df.fnD (N:=["order"]) S_ .S D8 wK OH OI rfl (by decide) ?_;intro f cY A Č s0 H E hr;exact (ar (aP (bh aE bo (by rfl) T.zdq bC (ae (b_ (ao vU) ["order"] ["place","order"] [none,some 0] rfl (cq (ae (bj dC eY (by rfl) T.zhq gb (ae (ak 0) ai)) ai) T.zeq) (λY=>⟨(aw (show (["place","order"]:List Str).Nodup by decide+kernel)),aV,(Lh (ak 1) (ae (ak 0) ai))⟩)) ai))))
theorem Ed (T:Txt mg)  (kZ:Df K mg "counted" kK):Fn P w K mg base "counted" 1 ["shuffle"] (fh K 1 kJ .O):=by
 refine Df.fnD (N:=["shuffle","often","order"]) HU .O qM kZ oD Ea rfl (by decide) ?_;intro f cY A Č s0 H E hr;have hu:=hr.units;exact (aj (dD oD.nd md)
 (aj (dk aa1 rfl (bH (ak 0)) (aw oD.nd)
 (ar (yW hu (bc df dg (uQ hu (ak 2) au) au) (ak 2))))
 (ar (ub (hi:=by decide)))))
theorem HY (T:Txt mg)(eh:Fn P w K mg base "cards_at" 1 ["row","places"] (fh K 2 cv .S))(rB:Fn P w K mg base "counted" 1 ["shuffle"] (fh K 1 kJ .O))(mK:Df K mg "spread" m7):Fn P w K mg base "spread" 2 ["weights","shuffle"] (fh K 2 mE .O):=by
 refine Df.fnD (N:=["weights","shuffle","gathered","order","often","row","weight","changed"]) Lo .O vL mK iD HW rfl (by decide) ?_;intro f cY A Č s0 H E hr;have hu:=hr.units;exact (aj (dD iD.nd md)
 (aj (dk aa1 rfl (vq (aB rB (rm hr) (ae (ak 1) ai))) (eT rfl (aL (aw iD.nd) (aL (aw iD.nd) de)))
 (ar (dk aa1 rfl (vq (ak 0)) (eT rfl (aL (aw iD.nd) (aL (aw iD.nd) de)))
 (aj (aS iD.nd (aB eh (rm hr) (ae (ak 5) (ae (ak 3) ai))))
 (ar (yW hu (bc df dg (uQ hu (ak 7) au) (bc gA eX (ak 6) (ak 4))) (ak 7)))))))
 (ar (ub (hi:=by decide)))))
theorem rf (T:Txt mg)(i6:Fn P w K mg base "common_bottom" 2 ["some"] (fh K 1 dA .S))(eE:Df K mg "whole_weights" dN):Fn P w K mg base "whole_weights" 3 ["state","number"] (fh K 2 ez .S):=by
 refine Df.fnD (N:=["state","number","bottom","whole","row","weights","weight"]) tj .S iY eE cX qV rfl (by decide) ?_;intro f cY A Č s0 H E hr;have hu:=hr.units;exact (aj (aS cX.nd (aB i6 (rm hr) (ae (b_ (ao dN) ["state","number","bottom","whole","row","weights","weight"] ["row","weights","number"] [none,none,some 1] rfl (bH (ak 0)) (λY=>⟨(eT rfl (aL (aw (show (["row","weights","number"]:List Str).Nodup by decide+kernel)) (aL (aw (show (["row","weights","number"]:List Str).Nodup by decide+kernel)) de))),aV,(bp aM aN (ak 1) (ak 2) (λ_ _=>rfl))⟩)) ai)))
 (aj (dD cX.nd md)
 (aj (dk aa1 rfl (bH (ak 0)) (eT rfl (aL (aw cX.nd) (aL (aw cX.nd) de)))
 (aj (aS cX.nd (bp aM aN (ak 5) (ak 1) (λ_ _=>rfl)))
 (ar (yW hu (bc gA eX (zqa 6) (bc fI gH (ak 2) (zqa 6))) (ak 4)))))
 (pL 3 (ar (aP (cO (ae (ak 3) (ae (ak 2) ai)))))))))
theorem BX (T:Txt mg)(nu:Fn P w K mg base "ratio" 2 ["top","bottom"] (fh K 2 j1 .S))(jM:Df K mg "state_of" jF):Fn P w K mg base "state_of" 3 ["deals"] (fh K 1 gm .S):=by
 refine Df.fnD (N:=["deals","rows","whole","bottom","state","row"]) D9 .S oB jM gx BV rfl (by decide) ?_;intro f cY A Č s0 H E hr;have hu:=hr.units;exact (aj (dD gx.nd (ir ai))
 (aj (dk aa1 rfl (bH (ak 0)) (eT rfl (aL (aw gx.nd) (aL (aw gx.nd) de)))
 (ar (gF (iW aa8 PySem.F.slot_list_extend PySem.F.type_list_extend NN De (ae (bh (DX rfl) HJ (by rfl) T.zfq yF (ae (ak 2) ai)) ai)))))
 (pL 1 (aj (dD gx.nd (ir ai))
 (aj (dk aa1 rfl (bH (DQ rfl hu (ae (ak 1) ai) T.zcq T.znq)) (aw gx.nd)
 (ar (gF (iW aa8 aba abb dW dM (ae (cO (ae (ak 5) (ae (bh aE bo (by rfl) T.zdq bC (ae (b_ (ao jF) ["deals","rows","whole","bottom","state","row"] ["whole","bottom","row"] [none,none,some 5] rfl (bH (ak 0)) (λY=>⟨(eT rfl (aL (aw (show (["whole","bottom","row"]:List Str).Nodup by decide+kernel)) (aL (aw (show (["whole","bottom","row"]:List Str).Nodup by decide+kernel)) de))),aV,(aB nu (rm hr) (ae (uQ hu (ak 2) au) (ae (ak 1) ai)))⟩)) ai)) ai))) ai)))))
 (ar (aP (bh aE bo (by rfl) T.zdq bC (ae (fm 4) ai)))))))))
theorem Lz (T:Txt mg)(iE:Fn P w K mg base "state_of" 3 ["deals"] (fh K 1 gm .S))(qh:Df K mg "begun" oC):Fn P w K mg base "begun" 4 ["rows"] (fh K 1 pS .S):=by
 refine Df.fnD (N:=["rows"]) OA .S zB qh Lv Lw rfl (by decide) ?_;intro f cY A Č s0 H E hr;have hu:=hr.units;exact (ar (aP (aB iE (rm hr) (ae (b_ (ao oC) ["rows"] ["row"] [none] rfl (bH (ak 0)) (λY=>⟨(aw (show (["row"]:List Str).Nodup by decide+kernel)),aV,(cO (ae (La hu) (ae au ai)))⟩)) ai))))
theorem tK (T:Txt mg)  (fB:Df K mg "deal_numbers" fL):Fn P w K mg base "deal_numbers" 1 ["state"] (fh K 1 c6 .O):=by
 refine Df.fnD (N:=["state"]) vM .O jy fB tq tw rfl (by decide) ?_;intro f cY A Č s0 H E hr;exact (ar (oW (yV rfl (ae (bj dC eY (by rfl) T.zhq gb (ae (bp aM aN (zqa 0) au (λ_ _=>rfl)) ai)) ai) T.zfq T.zeq)))
theorem vY (T:Txt mg)(wL:Fn P w K mg base "spread" 2 ["weights","shuffle"] (fh K 2 mE .O))(i7:Fn P w K mg base "whole_weights" 3 ["state","number"] (fh K 2 ez .S))(iE:Fn P w K mg base "state_of" 3 ["deals"] (fh K 1 gm .S))(dZ:Fn P w K mg base "deal_numbers" 1 ["state"] (fh K 1 c6 .O))(fZ:Df K mg "mixed_state" gu):Fn P w K mg base "mixed_state" 4 ["state","shuffle"] (fh K 2 cA .S):=by
 refine Df.fnD (N:=["state","shuffle","mixed","number","deal"]) xh .S kn fZ gU vX rfl (by decide) ?_;intro f cY A Č s0 H E hr;exact (aj (dD gU.nd (ir ai))
 (aj (dk aa1 rfl (bH (m1:=.O) (aB dZ (rm hr) (ae (ak 0) ai))) (aw gU.nd)
 (aj (aS gU.nd (aB i7 (rm hr) (ae (ak 0) (ae (ak 3) ai))))
 (ar (gF (iW aa8 aba abb dW dM (ae (cO (ae (aB wL (rm hr) (ae (zqa 4) (ae (ak 1) ai))) (ae (bc gA eX (zqa 4) (bj dC eY (by rfl) T.zhq gb (ae (ak 1) ai))) ai))) ai))))))
 (pL 2 (ar (aP (aB iE (rm hr) (ae (ak 2) ai)))))))
theorem tL (T:Txt mg)(eh:Fn P w K mg base "cards_at" 1 ["row","places"] (fh K 2 cv .S))(fD:Df K mg "looked_state" d9):Fn P w K mg base "looked_state" 2 ["state","places"] (fh K 2 cB .O):=by
 refine Df.fnD (N:=["state","places","parts","row","weights","seen"]) vN .O jz fD eB tE rfl (by decide) ?_;intro f cY A Č s0 H E hr;have hu:=hr.units;exact (aj (dD eB.nd md)
 (aj (Ol (S0 aa1 rfl (bH (ak 0)) (eT rfl (aL (aw eB.nd) (aL (aw eB.nd) de)))
 (BF (S4 (aB eh (rm hr) (ae (ak 3) (ae (ak 1) ai))) (aw eB.nd))
 (BF (S6 hu (ak 5) (FX (Oq hu (ak 5) Om)) Oj)
 (FX (S2 (S5 hu (Oo 2) (ak 5)) (cO (ae (ak 3) (ae (ak 4) ai)))))))))
 (pL 2 (ar (oW (b_ (ao d9) ["state","places","parts","row","weights","seen"] ["seen","parts"] [none,some 2] rfl (bH (bj (HC rfl hu) KZ (by rfl) T.zcq xM (ae (ak 2) ai))) (λY=>⟨(aw (show (["seen","parts"]:List Str).Nodup by decide+kernel)),aV,(cO (ae (ak 0) (ae (bh aE bo (by rfl) T.zdq bC (ae (Su hu (ak 1) (ak 0)) ai)) ai)))⟩)))))))
theorem Ee (T:Txt mg)(Ah:Fn P w K mg base "total" 4 ["some"] (fh K 1 lD .S))(dZ:Fn P w K mg base "deal_numbers" 1 ["state"] (fh K 1 c6 .O))(k7:Df K mg "sums_of" j5):Fn P w K mg base "sums_of" 5 ["state"] (fh K 1 jk .O):=by
 refine Df.fnD (N:=["state"]) HV .O qP k7 Eb Ec rfl (by decide) ?_;intro f cY A Č s0 H E hr;exact (ar (oW (b_ (ao j5) ["state"] ["number","state"] [none,some 0] rfl (bH (aB dZ (rm hr) (ae (ak 0) ai))) (λY=>⟨(aw (show (["number","state"]:List Str).Nodup by decide+kernel)),aV,(aB Ah (rm hr) (ae (b_ (E1 _ (ao j5)) ["number","state"] ["row","weights","number"] [none,none,some 0] rfl (bH (ak 1)) (λY=>⟨(eT rfl (aL (aw (show (["row","weights","number"]:List Str).Nodup by decide+kernel)) (aL (aw (show (["row","weights","number"]:List Str).Nodup by decide+kernel)) de))),aV,(bp aM aN (ak 1) (ak 2) (λ_ _=>rfl))⟩)) ai))⟩))))
theorem rh (T:Txt mg)(d7:Fn P w K mg base "looked_state" 2 ["state","places"] (fh K 2 cB .O))(rC:Fn P w K mg base "sums_of" 5 ["state"] (fh K 1 jk .O))(eF:Df K mg "is_quiet_look" d_):Fn P w K mg base "is_quiet_look" 6 ["state","places"] (fh K 2 cJ .S):=by
 refine Df.fnD (N:=["state","places"]) tm .S iZ eF qW qX rfl (by decide) ?_;intro f cY A Č s0 H E hr;have hu:=hr.units;exact (ar (aP (bj (G5 rfl) NM (by rfl) T.zkq R5 (ae (b_ (ao d_) ["state","places"] ["seen","part"] [none,none] rfl (bH (aB d7 (rm hr) (ae (ak 0) (ae (ak 1) ai)))) (λY=>⟨(eT rfl (aL (aw (show (["seen","part"]:List Str).Nodup by decide+kernel)) (aL (aw (show (["seen","part"]:List Str).Nodup by decide+kernel)) de))),aV,(Jg jo d8 (DZ rfl hu (ae (aB rC (rm hr) (ae (ak 1) ai)) ai) (by rfl) T.zhq (by rfl) T.znq) au (bN _))⟩)) ai))))
theorem BY (T:Txt mg)  (iF:Df K mg "depth_in" gT):∀n,Fn P w K mg base "depth_in" (n+1) ["plan","menu"] (fh K 2 (aW n) .S):=by
 intro n
 induction n with
 |zero=>
  refine Df.fnD vO .S (fq 0) iF iO sM rfl (by decide) ?_;intro f cY A Č s0 H E hr;exact ph
 |succ n jP=>
  refine Df.fnD (N:=["plan","menu","inner","depths"]) vO .S (fq (n+1)) iF iO sM rfl (by decide) ?_;intro f cY A Č s0 H E hr;have hu:=hr.units;exact (aj (cE (bG jo d8 (zqa 0) qu (bN _)) (ar (aP au)) bE)
 (aj (cE (DW.dt (uG (bG jo d8 (zqa 0) qu (bN _)) (oV (bG (K7 hu) vE (zqa 0) (ak 1) (by with_unfolding_all rfl))))) (ar (aS iO.nd (ir (ae (zqa 0) ai)))) (ar (cE (DW.dt (uG (bG jo d8 (zqa 0) qu (bN _)) (oV (bG jo d8 (bj dC eY (by rfl) T.zhq gb (ae (zqa 0) ai)) au (bN _))))) (ar (jx (ao gT) ["plan","menu","inner","depths"] ["way"] [none] iO.nd rfl (bH (zqa 0)) (λY=>⟨(aw (show (["way"]:List Str).Nodup by decide+kernel)),aV,(zqa 0)⟩))) (ar (aP di)))))
 (aj (jx (ao gT) ["plan","menu","inner","depths"] ["part","menu"] [none,some 1] iO.nd rfl (bH (ak 2)) (λY=>⟨(aw (show (["part","menu"]:List Str).Nodup by decide+kernel)),aV,(aB jP (rm hr) (ae (ak 0) (ae (ak 1) ai)))⟩))
 (aj (cE (bG (K7 hu) vE di (ak 3) (by with_unfolding_all rfl)) (ar (aP di)) bE)
 (ar (aP (bc df dg au (bj (HF rfl) K5 (by rfl) T.zmq yG (ae (ak 3) ai)))))))))
theorem xm (T:Txt mg)  (gX:Df K mg "cards_told" iA):Fn P w K mg base "cards_told" 1 ["state","place"] (fh K 2 cQ .S):=by
 refine Df.fnD (N:=["state","place","told","row","weights","number","weight"]) zC .S jf gX eN xi rfl (by decide) ?_;intro f cY A Č s0 H E hr;have hu:=hr.units;exact (aj (dD eN.nd (bc Of K4 (ir (ae di ai)) (bj dC eY (by rfl) T.zhq gb (ae (bp aM aN (zqa 0) au (λ_ _=>rfl)) ai))))
 (aj (dk aa1 rfl (bH (ak 0)) (eT rfl (aL (aw eN.nd) (aL (aw eN.nd) de)))
 (ar (dk aa1 rfl (N9 (ae (ak 4) ai) T.zbq) (eT rfl (aL (aw eN.nd) (aL (aw eN.nd) de)))
 (aj (cE (DW.dt (uG (bG PL JA (zqa 6) au (bN _)) (oV (bG (qJ hu) vE (bp aM aN (fm 2) (ak 5) (λ_ _=>rfl)) (cO (ae di (ae (bp aM aN (ak 3) (ak 1) (λ_ _=>rfl)) ai))) (by with_unfolding_all rfl))))) (ar (aP di)) bE)
 (ar (cE (bG PL JA (zqa 6) au (bN _)) (ar (mV (bp aM aN (ak 3) (ak 1) (λ_ _=>rfl)) (ak 5))) bE))))))
 (ar (aP (bh aE bo (by rfl) T.zdq bC (ae (fm 2) ai))))))
theorem zI (T:Txt mg)(lO:Fn P w K mg base "cards_told" 1 ["state","place"] (fh K 2 cQ .S))(iT:Df K mg "right_end" fM):Fn P w K mg base "right_end" 2 ["state","dues"] (fh K 2 cC .S):=by
 refine Df.fnD (N:=["state","dues","told","places","number","due","fitting"]) BO .S mF iT fO zG rfl (by decide) ?_;intro f cY A Č s0 H E hr;have hu:=hr.units;exact (aj (aS fO.nd (b_ (ao fM) ["state","dues","told","places","number","due","fitting"] ["place","state"] [none,some 0] rfl (cq (ae (bj dC eY (by rfl) T.zhq gb (ae (bp aM aN (zqa 0) au (λ_ _=>rfl)) ai)) ai) T.zeq) (λY=>⟨(aw (show (["place","state"]:List Str).Nodup by decide+kernel)),aV,(aB lO (rm hr) (ae (ak 1) (ae (ak 0) ai)))⟩)))
 (aj (dD fO.nd (ir ai))
 (aj (dk aa1 rfl (cq (ae (bj dC eY (by rfl) T.zhq gb (ae (zqa 1) ai)) ai) T.zeq) (aw fO.nd)
 (aj (aS fO.nd (bh aE bo (by rfl) T.zdq bC (ae (b_ (ao fM) ["state","dues","told","places","number","due","fitting"] ["each","number"] [none,some 4] rfl (bH (ak 1)) (λY=>⟨(aw (show (["each","number"]:List Str).Nodup by decide+kernel)),aV,(bp aM aN (ak 0) (ak 1) (λ_ _=>rfl))⟩)) ai)))
 (aj (jx (ao fM) ["state","dues","told","places","number","due","fitting"] ["place","due","places","told"] [none,some 5,some 3,some 2] fO.nd rfl (cq (ae (bj dC eY (by rfl) T.zhq gb (ae (ak 2) ai)) ai) T.zeq) (λY=>⟨(aw (show (["place","due","places","told"]:List Str).Nodup by decide+kernel)),(Ju (DW.dt (uG (bG (I0 hu) (uO) (bp aM aN (ak 3) (ak 0) (λ_ _=>rfl)) (ak 1) (bN _)) (oV (bG (qJ hu) vE (ak 0) (fm 2) (by with_unfolding_all rfl)))))),(ak 0)⟩))
 (aj (cE (bG jo d8 (bj dC eY (by rfl) T.zhq gb (ae (ak 6) ai)) au (bN _)) (ar (aP di)) bE)
 (ar (gF (iW aa8 aba abb dW dM (ae (zqa 6) ai))))))))
 (ar (aP (cO (ae qu (ae (bh aE bo (by rfl) T.zdq bC (ae (fm 3) ai)) ai))))))))
theorem vZ (T:Txt mg)(d7:Fn P w K mg base "looked_state" 2 ["state","places"] (fh K 2 cB .O))(i8:Fn P w K mg base "is_quiet_look" 6 ["state","places"] (fh K 2 cJ .S))(kr:Fn P w K mg base "mixed_state" 4 ["state","shuffle"] (fh K 2 cA .S))(mL:Fn P w K mg base "right_end" 2 ["state","dues"] (fh K 2 cC .S))(eP:Df K mg "look_within" fu)(fR:Df K mg "mix_within" gq)(eQ:Df K mg "plan_within" fw):∀n,(Fn P w K mg base "look_within" (n+7) ["state","place","dues","menu","depth"] (fh K 5 (bK n) .S))/\(Fn P w K mg base "mix_within" (n+7) ["state","shuffle","dues","menu","depth"] (fh K 5 (bF n) .S))/\(Fn P w K mg base "plan_within" (n+7) ["state","dues","menu","depth"] (fh K 4 (aF n) .S)):=by
 intro n
 induction n with
 |zero=>
  refine⟨?_,?_,?_⟩
  ·
   refine Df.fnD nQ .S (eJ 0) eP c7 mG rfl (by decide) ?_;intro f cY A Č s0 H E hr;exact ph
  ·
   refine Df.fnD pT .S (gN 0) fR ko nU rfl (by decide) ?_;intro f cY A Č s0 H E hr;exact ph
  ·
   refine Df.fnD nR .S (eK 0) eQ c8 mH rfl (by decide) ?_;intro f cY A Č s0 H E hr;exact ph
 |succ n ih=>
  obtain⟨nY,qi,eR⟩:=ih;refine⟨?_,?_,?_⟩
  ·
   refine Df.fnD (N:=["state","place","dues","menu","depth","parts","ways","seen","part","plan"]) nQ .S (eJ (n+1)) eP c7 mG rfl (by decide) ?_;intro f cY A Č s0 H E hr;exact (aj (cE (Jj (qw (aB i8 (rm hr) (ae (ak 0) (ae (cO (ae (ak 1) ai)) ai))))) (ar (aP di)) bE)
 (aj (aS c7.nd (aB d7 (rm hr) (ae (ak 0) (ae (cO (ae (ak 1) ai)) ai))))
 (aj (cE (bG jo d8 (bj dC eY (by rfl) T.zhq gb (ae (ak 5) ai)) au (bN _)) (ar (aP di)) bE)
 (aj (dD c7.nd (ir ai))
 (aj (dk aa1 rfl (bH (ak 5)) (eT rfl (aL (aw c7.nd) (aL (aw c7.nd) de)))
 (aj (aS c7.nd (aB eR (rm hr) (Sz (a_ (ak 8) (a_ (ak 2) (a_ (ak 3) (a_ (bc uu o9 (ak 4) au) lB)))))))
 (aj (cE (bG CL yR (ak 9) di (bN _)) (ar (aP di)) bE)
 (ar (gF (iW aa8 aba abb dW dM (ae (cO (ae (ak 7) (ae (ak 9) ai))) ai)))))))
 (ar (aP (cO (ae qu (ae (cO (ae (ak 1) ai)) (ae (bh aE bo (by rfl) T.zdq bC (ae (fm 6) ai)) ai)))))))))))
  ·
   refine Df.fnD (N:=["state","shuffle","dues","menu","depth","plan"]) pT .S (gN (n+1)) fR ko nU rfl (by decide) ?_;intro f cY A Č s0 H E hr;exact (aj (aS ko.nd (aB eR (rm hr) (Sz (a_ (aB kr (rm hr) (ae (ak 0) (ae (ak 1) ai))) (a_ (ak 2) (a_ (ak 3) (a_ (bc uu o9 (ak 4) au) lB)))))))
 (ar (aP (Jk (hc:=(bG CL yR (ak 5) di (bN _))) (ha:=di) (hb:=(cO (ae qu (ae (ak 1) (ae (ak 5) ai)))))))))
  ·
   refine Df.fnD (N:=["state","dues","menu","depth","plan","place","shuffle"]) nR .S (eK (n+1)) eQ c8 mH rfl (by decide) ?_;intro f cY A Č s0 H E hr;exact (aj (aS c8.nd (aB mL (rm hr) (ae (ak 0) (ae (ak 1) ai))))
 (aj (cE (DW.dt (Vo (bG tZ pb (ak 4) di (bN _)) (R_ (bG jo d8 (ak 3) au (bN _))))) (ar (aP (ak 4))) bE)
 (aj (dk aa1 rfl (cq (ae (bj dC eY (by rfl) T.zhq gb (ae (bp aM aN (zqa 0) au (λ_ _=>rfl)) ai)) ai) T.zeq) (aw c8.nd)
 (aj (aS c8.nd (aB nY (rm hr) (Sz (a_ (ak 0) (a_ (ak 5) (a_ (ak 1) (a_ (ak 2) (a_ (ak 3) lB))))))))
 (ar (cE (bG tZ pb (ak 4) di (bN _)) (ar (aP (ak 4))) bE))))
 (aj (cE (bG jo d8 (ak 3) au (bN _)) (ar (aP di)) bE)
 (aj (dk aa1 rfl (bH (ak 2)) (aw c8.nd)
 (aj (aS c8.nd (aB qi (rm hr) (Sz (a_ (ak 0) (a_ (ak 6) (a_ (ak 1) (a_ (ak 2) (a_ (ak 3) lB))))))))
 (ar (cE (bG tZ pb (ak 4) di (bN _)) (ar (aP (ak 4))) bE))))
 (ar (aP di)))))))
theorem HZ (T:Txt mg)(Ai:Fn P w K mg base "begun" 4 ["rows"] (fh K 1 pS .S))(eR:∀n,Fn P w K mg base "plan_within" (n+7) ["state","dues","menu","depth"] (fh K 4 (aF n) .S))(mM:Df K mg "fewest" j6):Fn P w K mg base "fewest" 28 ["deals","menu","most"] (fh K 3 jA .S):=by
 refine Df.fnD (N:=["deals","menu","most","state","dues","depth","plan"]) Lp .S vQ mM kN HX rfl (by decide) ?_;intro f cY A Č s0 H E hr;exact (aj (aS kN.nd (aB Ai (rm hr) (ae (b_ (ao j6) ["deals","menu","most","state","dues","depth","plan"] ["row","due"] [none,none] rfl (bH (ak 0)) (λY=>⟨(eT rfl (aL (aw (show (["row","due"]:List Str).Nodup by decide+kernel)) (aL (aw (show (["row","due"]:List Str).Nodup by decide+kernel)) de))),aV,(ak 0)⟩)) ai)))
 (aj (jx (ao j6) ["deals","menu","most","state","dues","depth","plan"] ["row","due"] [none,none] kN.nd rfl (bH (ak 0)) (λY=>⟨(eT rfl (aL (aw (show (["row","due"]:List Str).Nodup by decide+kernel)) (aL (aw (show (["row","due"]:List Str).Nodup by decide+kernel)) de))),aV,(ak 1)⟩))
 (aj (dk aa1 rfl (cq (ae (bc df dg (ak 2) au) ai) T.zeq) (aw kN.nd)
 (aj (aS kN.nd (aB (eR 20) (rm hr) (Sz (a_ (ak 3) (a_ (ak 4) (a_ (ak 1) (a_ (ak 5) lB)))))))
 (ar (cE (bG tZ pb (ak 6) di (bN _)) (ar (aP (ak 6))) bE))))
 (ar (aP di)))))
theorem tM (T:Txt mg)  (fE:Df K mg "_law_cell_at" iB):Fn P w K mg base "_law_cell_at" 1 ["script","k"] (fh K 2 dX .S):=by
 refine Df.fnD (N:=["script","k"]) vR .S gO fE tF tG rfl (by decide) ?_;intro f cY A Č s0 H E hr;exact (aj (cE (bG PH Jy (ak 1) (bj dC eY (by rfl) T.zhq gb (ae (ak 0) ai)) (bN _)) (ar (aP (bp aM aN (ak 0) (ak 1) (λ_ _=>rfl)))) bE)
 (ar (aP au)))
theorem xn (T:Txt mg)(jN:Fn P w K mg base "_law_cell_at" 1 ["script","k"] (fh K 2 dX .S))(gY:Df K mg "_law_state" jl):Fn P w K mg base "_law_state" 2 ["script","k"] (fh K 2 gP .O):=by
 refine Df.fnD (N:=["script","k","cell"]) zD .O jh gY nV xj rfl (by decide) ?_;intro f cY A Č s0 H E hr;exact (aj (aS nV.nd (aB jN (rm hr) (ae (ak 0) (ae (ak 1) ai))))
 (aj (cE (bG U2 Sn (ak 2) (bc IA E_ au au) (bN _)) (ar (oW (ir (ae (bc uu o9 (ak 2) (bc IA E_ au au)) (ae uE ai))))) bE)
 (ar (oW (ir (ae (bc lY jY (ak 2) au) (ae uE ai)))))))
theorem zJ (T:Txt mg)  (iU:Df K mg "_law_take" kM):Fn P w K mg base "_law_take" 1 ["state","many"] (Jm K 2 aK):=by
 refine Df.fnI (N:=["state","many","found","mixed"]) BP j4 iU jj zH rfl rfl (by decide) ?_;intro f cY A Č s0 H E hr;exact (aj (cE (qw (bp aM aN (fm 0) au (λ_ _=>rfl))) (aj (aS jj.nd (bc lY jY (bp aM aN (fm 0) au (λ_ _=>rfl)) (ak 1)))
 (aj (mV (bc fI gH (bp aM aN (fm 0) au (λ_ _=>rfl)) (ak 1)) au)
 (ar (aP (ak 2))))) bE)
 (aj (mV (bc lY jY (bc df dg (bc gA eX (bp aM aN (fm 0) au (λ_ _=>rfl)) au) au) au) au)
 (aj (aS jj.nd (bc lY jY (bc df dg (bc df dg (bc gA eX (bp aM aN (fm 0) au (λ_ _=>rfl)) (bp aM aN (fm 0) au (λ_ _=>rfl))) (bc gA eX au (bp aM aN (fm 0) au (λ_ _=>rfl)))) au) au))
 (aj (aS jj.nd (bc lY jY (bc df dg (bc gA eX (ak 3) (ak 3)) (bc gA eX au (ak 3))) au))
 (ar (aP (bc lY jY (bc fI gH (ak 3) au) (ak 1))))))))
theorem xo (T:Txt mg)(aY:Fn P w K mg base "_law_take" 1 ["state","many"] (Jm K 2 aK))(gZ:Df K mg "_law_order" iC):Fn P w K mg base "_law_order" 2 ["state","many"] (Jm K 2 bM):=by
 refine Df.fnI (N:=["state","many","left"]) lE lF gZ nW xk rfl rfl (by decide) ?_;intro f cY A Č s0 H E hr;exact (aj (dD nW.nd (yV rfl (ae (ak 1) ai) T.zfq T.zeq))
 (ar (aP (bh aE bo (by rfl) T.zdq bC (ae (uj (ao iC) ["state","many","left"] ["k","left","state"] [none,some 2,some 0] rfl (cq (ae (ak 1) ai) T.zeq) (λY=>⟨(aw (show (["k","left","state"]:List Str).Nodup by decide+kernel)),aV,(iW aa8 PySem.F.slot_list_pop PySem.F.type_list_pop IL Hh (ae (bY aY (rm hr) (ae (bj dC eY (by rfl) T.zhq gb (ae (fm 1) ai)) ai)) ai))⟩)) ai)))))
theorem tN (T:Txt mg)  (fF:Df K mg "_law_crossed" gw):Fn P w K mg base "_law_crossed" 1 ["many","order","size"] (fh K 3 ft .S):=by
 refine Df.fnD (N:=["many","order","size","found","k","one","other"]) vS .S jB fF f7 tJ rfl (by decide) ?_;intro f cY A Č s0 H E hr;exact (aj (dD f7.nd (yV rfl (ae (ak 0) ai) T.zfq T.zeq))
 (aj (dk aa1 rfl (cq (ae (bj (mN rfl) pd (by rfl) T.zjq yH (ae (ak 2) (ae (bc fI gH (ak 0) au) ai))) ai) T.zeq) (aw f7.nd)
 (aj (Sg rfl f7.nd (ae (bp aM aN (ak 1) (bc gA eX au (ak 4)) (λ_ _=>rfl)) (ae (bp aM aN (ak 1) (bc df dg (bc gA eX au (ak 4)) au) (λ_ _=>rfl)) ai)))
 (aj (mV (ak 6) (ak 5))
 (ar (mV (ak 5) (ak 6))))))
 (ar (aP (cO (ae (Fh rfl (ae (ak 0) ai) T.zdq T.zeq) (ae (bh aE bo (by rfl) T.zdq bC (ae (fm 3) ai)) ai)))))))
theorem tP (T:Txt mg)(aY:Fn P w K mg base "_law_take" 1 ["state","many"] (Jm K 2 aK))(dH:Fn P w K mg base "_law_order" 2 ["state","many"] (Jm K 2 bM))(jO:Fn P w K mg base "_law_crossed" 1 ["many","order","size"] (fh K 3 ft .S))(fG:Df K mg "_law_menu_of" fy):Fn P w K mg base "_law_menu_of" 3 ["state","many"] (Jm K 2 gQ):=by
 refine Df.fnI (N:=["state","many","menu","k","order","size","stays","way"]) (ps:=["state","many"]) (st:=fy) (k:=2) jC jD fG cK tH rfl rfl (by decide) ?_;intro f cY A Č s0 H E hr;have hu:=hr.units;have jK:=bW hr;exact (aj (dD (i:=2) cK.nd (ir ai))
 (aj (dk aa1 rfl (cq (ae (bc df dg au (bY (i:=0) aY (rm hr) (ae au ai))) ai) T.zeq) (aw (i:=3) cK.nd)
 (aj (aS (i:=4) cK.nd (bY (i:=0) dH (rm hr) (ae (ak 1) ai)))
 (aj (aS (i:=5) cK.nd (bp aM aN (ir (Sz (a_ au (a_ au (a_ (bc fI gH (ak 1) au) (a_ (bc df dg au (bY (i:=0) aY (rm hr) (ae (ak 1) ai))) lB)))))) (bY (i:=0) aY (rm hr) (ae au ai)) (λ_ _=>rfl)))
 (aj (aS (i:=6) cK.nd (Fh rfl (ae (ak 1) ai) T.zdq T.zeq))
 (aj (aS (i:=7) cK.nd (bY (i:=0) aY (rm hr) (ae au ai)))
 (ar (cE (DW.dt (uG (bG jo d8 (ak 7) au (bN _)) (oV (Jl PJ Jz PJ Jz au (ak 1) au)))) (ar (gF (iW (i:=2) aa8 aba abb dW dM (ae (bh aE bo (by rfl) T.zdq bC (ae (b_ (ao fy) ["state","many","menu","k","order","size","stays","way"] ["j","stays"] [none,some 6] rfl (cq (ae (ak 1) ai) T.zeq) (λY=>⟨(aw (i:=0) (show (["j","stays"]:List Str).Nodup by decide+kernel)),aV,(bc df dg (kz kD qA (ak 1) (mS (ak 0)) mR) (kz kD qA (ak 1) mR (mS (ak 0))))⟩)) ai)) ai)))) (ar (cE (bG jo d8 (ak 7) au (bN _)) (ar (gF (iW (i:=2) aa8 aba abb dW dM (ae (cO (ae (ak 6) (ae (ak 4) ai))) ai)))) (ar (cE (bG jo d8 (ak 7) au (bN _)) (ar (gF (iW (i:=2) aa8 aba abb dW dM (ae (bh aE bo (by rfl) T.zdq bC (ae (uj (ao fy) ["state","many","menu","k","order","size","stays","way"] ["j","state","many"] [none,some 0,some 1] rfl (cq (ae (bc df dg au (bY (i:=0) aY (rm hr) (ae au ai))) ai) T.zeq) (λY=>⟨(aw (i:=0) (show (["j","state","many"]:List Str).Nodup by decide+kernel)),aV,(bY (i:=1) dH (rm hr) (ae (ak 2) ai))⟩)) ai)) ai)))) (ar (gF (iW (i:=2) aa8 aba abb dW dM (ae (aB jO (rm hr) (ae (ak 1) (ae (ak 4) (ae (bj (xy rfl) AY (by rfl) T.zmq yG (ae au (ae (bj (mN rfl) pd (by rfl) T.zjq yH (ae (ak 5) (ae (bc fI gH (ak 1) au) ai))) ai))) ai)))) ai)))))))))))))))
 (ar (aP (bh aE bo (by rfl) T.zdq bC (ae (fm 2) ai))))))
theorem rj (T:Txt mg)(aY:Fn P w K mg base "_law_take" 1 ["state","many"] (Jm K 2 aK))(dH:Fn P w K mg base "_law_order" 2 ["state","many"] (Jm K 2 bM))(eG:Df K mg "_law_deals_of" dF):Fn P w K mg base "_law_deals_of" 3 ["state","many"] (Jm K 2 f6):=by
 refine Df.fnI (N:=["state","many","rows","k","row","size","places","way","deals","due"]) (ps:=["state","many"]) (st:=dF) (k:=2) eA i5 eG aT qY rfl rfl (by decide) ?_;intro f cY A Č s0 H E hr;have hu:=hr.units;have jK:=bW hr;exact (aj (dD (i:=2) aT.nd (ir ai))
 (aj (dk aa1 rfl (cq (ae (bc df dg au (bY (i:=0) aY (rm hr) (ae au ai))) ai) T.zeq) (aw (i:=3) aT.nd)
 (aj (aS (i:=4) aT.nd (bh aE bo (by rfl) T.zdq bC (ae (uj (ao dF) ["state","many","rows","k","row","size","places","way","deals","due"] ["place","state"] [none,some 0] rfl (cq (ae (ak 1) ai) T.zeq) (λY=>⟨(aw (i:=0) (show (["place","state"]:List Str).Nodup by decide+kernel)),aV,(bY (i:=1) aY (rm hr) (ae au ai))⟩)) ai)))
 (aj (cE (bG jo d8 (bY (i:=0) aY (rm hr) (ae au ai)) au (bN _)) (ar (aS (i:=4) aT.nd (bh aE bo (by rfl) T.zdq bC (ae (uj (ao dF) ["state","many","rows","k","row","size","places","way","deals","due"] ["place","state"] [none,some 0] rfl (cq (ae (ak 1) ai) T.zeq) (λY=>⟨(aw (i:=0) (show (["place","state"]:List Str).Nodup by decide+kernel)),aV,(bY (i:=1) aY (rm hr) (ae au ai))⟩)) ai)))) bE)
 (ar (cE (bG (qJ hu) vE (ak 4) (fm 2) (by with_unfolding_all rfl)) (ar (gF (iW (i:=2) aa8 aba abb dW dM (ae (ak 4) ai)))) bE)))))
 (pL 2 (aj (aS (i:=5) aT.nd (bc df dg au (bY (i:=0) aY (rm hr) (ae (bj (mN rfl) pd (by rfl) T.zjq yH (ae au (ae (ak 1) ai))) ai))))
 (aj (aS (i:=6) aT.nd (kz kD qA (bY (i:=0) dH (rm hr) (ae (ak 1) ai)) mR (mS (ak 5))))
 (aj (aS (i:=7) aT.nd (bY (i:=0) aY (rm hr) (ae au ai)))
 (aj (dD (i:=8) aT.nd (ir ai))
 (aj (dk aa1 rfl (bH (ak 2)) (aw (i:=4) aT.nd)
 (aj (aS (i:=9) aT.nd (bh aE bo (by rfl) T.zdq bC (ae (b_ (ao dF) ["state","many","rows","k","row","size","places","way","deals","due"] ["place","row"] [none,some 4] rfl (bH (ak 6)) (λY=>⟨(aw (i:=0) (show (["place","row"]:List Str).Nodup by decide+kernel)),aV,(bp aM aN (ak 1) (ak 0) (λ_ _=>rfl))⟩)) ai)))
 (aj (cE (bG jo d8 (ak 7) au (bN _)) (ar (aS (i:=9) aT.nd (bc df dg (kz kD qA (ak 9) mR (mS (PR CK Fb au))) (cO (ae (bc lY jY (bj (HQ rfl) Lj (by rfl) T.zlq R6 (ae (ak 4) ai)) au) ai))))) bE)
 (aj (cE (bG jo d8 (ak 7) au (bN _)) (ar (aS (i:=9) aT.nd (bc Ox Ln (cO (ae (bj (HP rfl) Li (by rfl) T.zmq yG (ae (ak 4) ai)) ai)) (ak 5)))) bE)
 (ar (gF (iW (i:=8) aa8 aba abb dW dM (ae (cO (ae (ak 4) (ae (ak 9) ai))) ai))))))))
 (ar (ub (i:=8) (hi:=by decide)))))))))))
theorem oF (T:Txt mg)(jP:∀n,Fn P w K mg base "depth_in" (n+1) ["plan","menu"] (fh K 2 (aW n) .S))(wM:Fn P w K mg base "fewest" 28 ["deals","menu","most"] (fh K 3 jA .S))(dI:Df K mg "_law_depth_told" eM):Fn P w K mg base "_law_depth_told" 29 ["deals","menu","most"] (fh K 3 br .S):=by
 refine Df.fnD (N:=["deals","menu","most","plan"]) pV .S gR dI jG oE rfl (by decide) ?_;intro f cY A Č s0 H E hr;exact (aj (aS jG.nd (aB wM (rm hr) (ae (ak 0) (ae (ak 1) (ae (ak 2) ai)))))
 (aj (cE (bG CL yR (ak 3) di (bN _)) (ar (aP di)) bE)
 (ar (aP (aB (jP 20) (rm hr) (ae (ak 3) (ae (ak 1) ai)))))))
theorem xp (T:Txt mg)(EJ:Fn P w K mg base "laid" 22 ["row","order"] (fh K 2 qL .S))(Aj:Fn P w K mg base "then" 2 ["one","other"] (fh K 2 km .S))(EK:Fn P w K mg base "back" 1 ["order"] (fh K 1 oA .S))(cc:Fn P w K mg base "_law_depth_told" 29 ["deals","menu","most"] (fh K 3 br .S))(g7:Df K mg "_law_alike" cW):Fn P w K mg base "_law_alike" 30 ["deals","menu","order","most"] (fh K 4 ji .S):=by
 refine Df.fnD (N:=["deals","menu","order","most","depth","led","other"]) (ps:=["deals","menu","order","most"]) (st:=cW) (k:=29) zE .S lG g7 iI xl rfl (by decide) ?_;intro f cY A Č s0 H E hr;have hu:=hr.units;have jK:=bW hr;exact (aj (aS (i:=4) iI.nd (aB cc (rm hr) (ae (ak 0) (ae (ak 1) (ae (ak 3) ai)))))
 (aj (aS (i:=5) iI.nd (bh aE bo (by rfl) T.zdq bC (ae (b_ (ao cW) ["deals","menu","order","most","depth","led","other"] ["shuffle","order"] [none,some 2] rfl (bH (ak 1)) (λY=>⟨(aw (i:=0) (show (["shuffle","order"]:List Str).Nodup by decide+kernel)),aV,(bh aE bo (by rfl) T.zdq bC (ae (b_ (E1 _ (ao cW)) ["shuffle","order"] ["one","order"] [none,some 1] rfl (bH (ak 0)) (λY=>⟨(aw (i:=0) (show (["one","order"]:List Str).Nodup by decide+kernel)),aV,(aB Aj (rm hr) (ae (aB Aj (rm hr) (ae (aB EK (rm hr) (ae (ak 1) ai)) (ae (ak 0) ai))) (ae (ak 1) ai)))⟩)) ai))⟩)) ai)))
 (aj (cE (bG (CU hu) (uO (f:=not)) (aB cc (rm hr) (ae (b_ (ao cW) ["deals","menu","order","most","depth","led","other"] ["row","due","order"] [none,none,some 2] rfl (bH (ak 0)) (λY=>⟨(eT rfl (aL (aw (i:=0) (show (["row","due","order"]:List Str).Nodup by decide+kernel)) (aL (aw (i:=1) (show (["row","due","order"]:List Str).Nodup by decide+kernel)) de))),aV,(cO (ae (aB EJ (rm hr) (ae (ak 0) (ae (ak 2) ai))) (ae (ak 1) ai)))⟩)) (ae (ak 5) (ae (ak 3) ai)))) (ak 4) (bN _)) (ar (aP uE)) bE)
 (aj (cE (bG (CU hu) (uO (f:=not)) (aB cc (rm hr) (ae (b_ (ao cW) ["deals","menu","order","most","depth","led","other"] ["row","due"] [none,none] rfl (bH (ak 0)) (λY=>⟨(eT rfl (aL (aw (i:=0) (show (["row","due"]:List Str).Nodup by decide+kernel)) (aL (aw (i:=1) (show (["row","due"]:List Str).Nodup by decide+kernel)) de))),aV,(cO (ae (ak 0) (ae (Ov (ak 1)) ai)))⟩)) (ae (ak 1) (ae (ak 3) ai)))) (ak 4) (bN _)) (ar (aP uE)) bE)
 (aj (cE (bG (CU hu) (uO (f:=not)) (aB cc (rm hr) (ae (bc E7 E8 (kz kD qA (ak 0) (mS au) mR) (kz kD qA (ak 0) mR (mS au))) (ae (ak 1) (ae (ak 3) ai)))) (ak 4) (bN _)) (ar (aP uE)) bE)
 (aj (jx (i:=6) (ao cW) ["deals","menu","order","most","depth","led","other"] ["row","due"] [none,none] iI.nd rfl (bH (ak 0)) (λY=>⟨(eT rfl (aL (aw (i:=0) (show (["row","due"]:List Str).Nodup by decide+kernel)) (aL (aw (i:=1) (show (["row","due"]:List Str).Nodup by decide+kernel)) de))),aV,(cO (ae (bh aE bo (by rfl) T.zdq bC (ae (b_ (E1 _ (ao cW)) ["row","due"] ["card"] [none] rfl (bH (ak 0)) (λY=>⟨(aw (i:=0) (show (["card"]:List Str).Nodup by decide+kernel)),aV,(bc uu o9 au (ak 0))⟩)) ai)) (ae (bh aE bo (by rfl) T.zdq bC (ae (b_ (E1 _ (ao cW)) ["row","due"] ["card"] [none] rfl (bH (ak 1)) (λY=>⟨(aw (i:=0) (show (["card"]:List Str).Nodup by decide+kernel)),aV,(bc uu o9 au (ak 0))⟩)) ai)) ai)))⟩))
 (ar (aP (Jg (I0 hu) (uO (f:=id)) (aB cc (rm hr) (ae (ak 6) (ae (ak 1) (ae (ak 3) ai)))) (ak 4) (bN _))))))))))
theorem Tc (T:Txt mg)(FL:MM K "law" "law" BR f fd)(c9:Df K mg "greatest_divisor" cV)(qf:Df K mg "ratio" qQ)(wG:Df K mg "plus" yp)(qg:Df K mg "total" qR)(eD:Df K mg "common_bottom" eL)(yy:Df K mg "own" zF)(jL:Df K mg "cards_at" jE)(wI:Df K mg "laid" vT)(wJ:Df K mg "then" yq)(wK:Df K mg "back" vU)(kZ:Df K mg "counted" kK)(mK:Df K mg "spread" m7)(eE:Df K mg "whole_weights" dN)(jM:Df K mg "state_of" jF)(qh:Df K mg "begun" oC)(fB:Df K mg "deal_numbers" fL)(fZ:Df K mg "mixed_state" gu)(fD:Df K mg "looked_state" d9)(k7:Df K mg "sums_of" j5)(eF:Df K mg "is_quiet_look" d_)(iF:Df K mg "depth_in" gT)(gX:Df K mg "cards_told" iA)(iT:Df K mg "right_end" fM)(eP:Df K mg "look_within" fu)(fR:Df K mg "mix_within" gq)(eQ:Df K mg "plan_within" fw)(mM:Df K mg "fewest" j6)(fE:Df K mg "_law_cell_at" iB)(gY:Df K mg "_law_state" jl)(iU:Df K mg "_law_take" kM)(gZ:Df K mg "_law_order" iC)(fG:Df K mg "_law_menu_of" fy)(fF:Df K mg "_law_crossed" gw)(eG:Df K mg "_law_deals_of" dF)(dI:Df K mg "_law_depth_told" eM)(g7:Df K mg "_law_alike" cW)(hp:∀ns:List Int,ns.length<=63->BQ [.scr (ns.map .int)]=.ok (.bl true)):ny P w K mg base AA 31 f fd ["script"] (AU K):=by
 have cw:=nD (P:=P) (w:=w) (base:=base) T  c9;have nu:=Lx T cw qf;have EI:=OJ T nu wG;have Ah:=Ly T EI qg;have i6:=q_ T cw eD;have wH:=Ta (P:=P) (w:=w) (base:=base) T  yy;have eh:=BW (P:=P) (w:=w) (base:=base) T  jL;have EJ:=OL T wH wI;have Aj:=OM T eh wJ;have EK:=ON (P:=P) (w:=w) (base:=base) T  wK;have rB:=Ed (P:=P) (w:=w) (base:=base) T  kZ;have wL:=HY T eh rB mK;have i7:=rf T i6 eE;have iE:=BX T nu jM;have Ai:=Lz T iE qh;have dZ:=tK (P:=P) (w:=w) (base:=base) T  fB;have kr:=vY T wL i7 iE dZ fZ;have d7:=tL T eh fD;have rC:=Ee T Ah dZ k7;have i8:=rh T d7 rC eF;have jP:=BY (P:=P) (w:=w) (base:=base) T  iF;have lO:=xm (P:=P) (w:=w) (base:=base) T  gX;have mL:=zI T lO iT;have jQ:=vZ T d7 i8 kr mL eP fR eQ;have eR:=λn=>(jQ n).2.2;have wM:=HZ T Ai eR mM;have jN:=tM (P:=P) (w:=w) (base:=base) T  fE;have Ak:=xn T jN gY;have aY:=zJ (P:=P) (w:=w) (base:=base) T  iU;have dH:=xo T aY gZ;have jO:=tN (P:=P) (w:=w) (base:=base) T  fF;have wN:=tP T aY dH jO fG;have tW:=rj T aY dH eG;have cc:=oF T jP wM dI;have Al:=xp T EJ Aj EK cc g7;refine Sm ?_ hp;refine MM.okD (N:=["script","k","state","many","deals","menu"]) Wi .S Lq FL qZ rfl (by decide) ?_;intro f cY A Č s0 H E hr;exact (aj (dk aa1 rfl (cq (ae (bj (xy rfl) AY (by rfl) T.zmq yG (ae au (ae (bj (mN rfl) pd (by rfl) T.zjq yH (ae (bj dC eY (by rfl) T.zhq gb (ae (ak 0) ai)) (ae au ai))) ai))) ai) T.zeq) (aw qZ.nd)
 (aj (dD qZ.nd (aB Ak (rm hr) (ae (ak 0) (ae (ak 1) ai))))
 (aj (aS qZ.nd (bc df dg au (bY aY (rm hr) (ae au ai))))
 (aj (aS qZ.nd (bY tW (rm hr) (ae (ak 3) ai)))
 (aj (aS qZ.nd (bY wN (rm hr) (ae (ak 3) ai)))
 (ar (cE (Jj (qw (aB Al (rm hr) (Sz (a_ (ak 4) (a_ (ak 5) (a_ (bY dH (rm hr) (ae (ak 3) ai)) (a_ (bY aY (rm hr) (ae au ai)) lB)))))))) (ar (aP uE)) bE)))))))
 (ar (aP uE)))
end
inductive lH (K:aam)(x:Str)(st:adN):Prop
 |mk {f:aaL} {od an:Option aaL} {sl:Array (Option aao)} {oc kV dc pm cd ct:aao}:abV K abg x=some (some (.ref f))->K.lookup f=some ⟨oc,od,.func (acb x x (gE st) (c_ st) (ao st) .none kV dc pm an cd ct),sl⟩->afD K cd x=true->ada K (.ref f)=true->lH K x st
theorem cx (q:lH K x st)(X:K.In h)(G:h.Ns abg mg):Df K mg x st:=by
 obtain⟨a,l,c,k⟩:=q;exact⟨_,_,PySem.W.mg_of X G a,IP l c k⟩
theorem all_mk {fa:aaL}(X:K.In h)(G:h.Ns abg mg)(hfa:mg "law"=some (.ref fa))(q0:lH K "greatest_divisor" cV)(q1:lH K "ratio" qQ)(q2:lH K "plus" yp)(q3:lH K "total" qR)(q4:lH K "common_bottom" eL)(q5:lH K "own" zF)(q6:lH K "cards_at" jE)(q7:lH K "laid" vT)(q8:lH K "then" yq)(q9:lH K "back" vU)(q10:lH K "counted" kK)(q11:lH K "spread" m7)(q12:lH K "whole_weights" dN)(q13:lH K "state_of" jF)(q14:lH K "begun" oC)(q15:lH K "deal_numbers" fL)(q16:lH K "mixed_state" gu)(q17:lH K "looked_state" d9)(q18:lH K "sums_of" j5)(q19:lH K "is_quiet_look" d_)(q20:lH K "depth_in" gT)(q21:lH K "cards_told" iA)(q22:lH K "right_end" fM)(q23:lH K "look_within" fu)(q24:lH K "mix_within" gq)(q25:lH K "plan_within" fw)(q26:lH K "fewest" j6)(q27:lH K "_law_cell_at" iB)(q28:lH K "_law_state" jl)(q29:lH K "_law_take" kM)(q30:lH K "_law_order" iC)(q31:lH K "_law_menu_of" fy)(q32:lH K "_law_crossed" gw)(q33:lH K "_law_deals_of" dF)(q34:lH K "_law_depth_told" eM)(q35:lH K "_law_alike" cW)(q36:lH K "law" BR)(ziq:abV K abg "abs"=some none)(zkq:abV K abg "all"=some none)(zgq:abV K abg "dict"=some none)(zbq:abV K abg "enumerate"=some none)(zaq:abV K abg "isinstance"=some none)(zhq:abV K abg "len"=some none)(zfq:abV K abg "list"=some none)(zmq:abV K abg "max"=some none)(zjq:abV K abg "min"=some none)(zeq:abV K abg "range"=some none)(znq:abV K abg "set"=some none)(zcq:abV K abg "sorted"=some none)(zlq:abV K abg "sum"=some none)(zdq:abV K abg "tuple"=some none)(hp:∀ns:List Int,ns.length<=63->BQ [.scr (ns.map .int)]=.ok (.bl true))
  : ∃fd:ae2,(∀(s:aaE) (v:aao),BindsTo s fd ⟨[v],[]⟩ [("script",v)])/\∀base:ac5,K.In base->base.Ns abg mg->ny PySem.Challenge.pw_hushcards_k75_whole_laid_otherwise w K mg base AA 31 fa fd ["script"] (AU K):=by
 obtain @⟨f_,od_,an36,sl_,oc_,kV36,dc36,pm36,cd36,ct36,a36,l36,c36,k36⟩:=q36;have e:=hfa.symm.trans (PySem.W.mg_of X G a36);cases e;have T:Txt mg:=⟨abf X G ziq,abf X G zkq,abf X G zgq,abf X G zbq,abf X G zaq,abf X G zhq,abf X G zfq,abf X G zmq,abf X G zjq,abf X G zeq,abf X G znq,abf X G zcq,abf X G zlq,abf X G zdq⟩;have c9:=cx q0 X G;have qf:=cx q1 X G;have wG:=cx q2 X G;have qg:=cx q3 X G;have eD:=cx q4 X G;have yy:=cx q5 X G;have jL:=cx q6 X G;have wI:=cx q7 X G;have wJ:=cx q8 X G;have wK:=cx q9 X G;have kZ:=cx q10 X G;have mK:=cx q11 X G;have eE:=cx q12 X G;have jM:=cx q13 X G;have qh:=cx q14 X G;have fB:=cx q15 X G;have fZ:=cx q16 X G;have fD:=cx q17 X G;have k7:=cx q18 X G;have eF:=cx q19 X G;have iF:=cx q20 X G;have gX:=cx q21 X G;have iT:=cx q22 X G;have eP:=cx q23 X G;have fR:=cx q24 X G;have eQ:=cx q25 X G;have mM:=cx q26 X G;have fE:=cx q27 X G;have gY:=cx q28 X G;have iU:=cx q29 X G;have gZ:=cx q30 X G;have fG:=cx q31 X G;have fF:=cx q32 X G;have eG:=cx q33 X G;have dI:=cx q34 X G;have g7:=cx q35 X G;have FL:=IP (st:=BR) l36 c36 k36;refine⟨acb "law" "law" (gE BR) (c_ BR) (ao BR) .none kV36 dc36 pm36 an36 cd36 ct36,λs v=>.of_eq rfl,λbase _ _=>?_⟩;exact Tc (P:=PySem.Challenge.pw_hushcards_k75_whole_laid_otherwise) (w:=w) (base:=base) T  FL c9 qf wG qg eD yy jL wI wJ wK kZ mK eE jM qh fB fZ fD k7 eF iF gX iT eP fR eQ mM fE gY iU gZ fG fF eG dI g7 hp
end Hc
namespace Hc
open L2
end Hc
namespace Hc
open L2
theorem QW {f:Bool->Bool}{u w:U}:je f u w=(SX u w).bind λb=>.ok (.bl (f b)):=nr rfl
def F4 {a b:Int}:SX (.int a) (.int b)=.ok (a==b):=nr rfl
def F5 {a b:Str}:SX (.str a) (.str b)=.ok (a==b):=nr rfl
def bZ:=zyy @aal.{0,0}<|zyy @ad7.{0,0}<|zyy @aaw.{0}<|zyy @abH.{0}<|zyy @acI.{0}<|zyy @adq.{0}<|zyy @List.replicate_succ.{0}<|zyy @List.replicate_zero.{0}<|zyy @List.getElem?_cons_zero.{0}<|zyy @ab9.{0}<|zyy @List.set_cons_zero.{0}<|zyy @List.set_cons_succ.{0}<|zyy @ae1.{0}<|zyy @if_true.{1}<|zyy @if_false.{1}<|zyy @afA<|zyy @Qb<|zyy @Bool.not_true<|zyy @Bool.not_false<|zyy @QW<|zyy @F4 @F5
end Hc
namespace Hc.Cn
open L2 Hc.Ts
abbrev Rw:=List Int
abbrev Dc:=List (Rw×Int)
def kO (d:Dc)(k:Rw):Int:=((d.find? λp=>decide (p.1=k)).map (·.2)).getD 0
noncomputable def lI (d:Dc)(k:Rw)(v:Int):Dc:=if k∈d.map (·.1) then d.map (λp=>if p.1=k then (p.1,v) else p) else d++[(k,v)]
def oG (d:Dc)(k:Rw)(w:Int):Dc:=lI d k (kO d k+w)
def kq (d:Dc)(f:Rw->Int):Int:=(d.map λp=>p.2*f p.1).sum
def Nd (d:Dc):Prop:=(d.map (·.1)).Nodup
def Ps (d:Dc):Prop:=∀p∈d,1<=p.2
theorem jn (p:Rw×Int)(d:Dc)(k:Rw):kO (p::d) k=if p.1=k then p.2 else kO d k:=by
 unfold kO;rw[acV];by_cases c:p.1=k
 ·rw[hG c,hZ c];rfl
 ·rw[hJ c,hV c]
theorem kP:∀{d:Dc} {k:Rw},k∉d.map (·.1)->kO d k=0
 | [],_,_=>rfl
 |p::d,k,h=>by
  rw[aal,aaA,not_or] at h;rw[jn,hV (λe=>h.1 e.symm),kP h.2]
theorem yr {d:Dc}{k:Rw}(h:k∈d.map (·.1)):(k,kO d k)∈d:=by
 induction d with
 |nil=>cases h
 |cons q d ih=>
  rw[jn];grind
theorem pX (d:Dc)(k:Rw)(v:Int):(lI d k v).map (·.1)=if k∈d.map (·.1) then d.map (·.1) else d.map (·.1)++[k]:=by
 unfold lI;split
 ·rw[aat];apply aav;intro p _;show (if p.1=k then (p.1,v) else p).1=p.1;split<;>rfl
 ·rw[aaD];rfl
theorem LB {d:Dc}(k:Rw)(v:Int)(h:Nd d):Nd (lI d k v):=by
 unfold Nd at h ⊢;rw[pX];split
 ·exact h
 ·rename_i c;exact abO.mpr ⟨h,by simp,λa ha b hb=>by
   rw[aau] at hb;subst hb;exact λe=>c (e▸ha)⟩
theorem Td {d:Dc}{k:Rw}{v:Int}(h:Ps d)(hv:1<=v):Ps (lI d k v):=by
 unfold lI;intro p hp;split at hp
 ·obtain⟨q,hq,rfl⟩:=aan.mp hp;split
  ·exact hv
  ·exact h q hq
 ·rcases aaQ.mp hp with hp|hp
  ·exact h p hp
  ·rw[aau] at hp;subst hp;exact hv
theorem BZ {d:Dc}(h:Ps d)(k:Rw):0<=kO d k:=by
 by_cases c:k∈d.map (·.1)
 ·have:=h _ (yr c);lia
 ·rw[kP c];lia
def sum_append (a b:List Int):(a++b).sum=a.sum+b.sum:=afi
theorem B0:∀{d:Dc} {k:Rw} {v:Int} (f:Rw->Int),Nd d->k∈d.map (·.1)->kq (d.map λp=>if p.1=k then (p.1,v) else p) f=kq d f+(v-kO d k)*f k
 |q::d,k,v,f,n,h=>by
  unfold Nd at n;rw[aal,abe] at n;unfold kq;rw[aal,aal,aal,aaS,aaS,jn];by_cases c:q.1=k
  ·rw[hZ c,hZ c];have e:(d.map λp=>if p.1=k then (p.1,v) else p)=d:=by
    conv=>rhs;rw[←adC d]
    apply aav;intro p hp;rw[hV (λz=>n.1 (by rw[c,←z];exact abi hp))];rfl
   rw[e,c];show v*f k+_=q.2*f k+_+(v-q.2)*f k;rw[Int.sub_mul];lia
  ·rw[hV c,hV c];have h':k∈d.map (·.1):=by
    grind
   have:=B0 (v:=v) f n.2 h';unfold kq at this;lia
theorem B1 {d:Dc}(k:Rw)(w:Int)(f:Rw->Int)(n:Nd d):kq (oG d k w) f=kq d f+w*f k:=by
 unfold oG lI;split
 ·rename_i c;rw[B0 f n c];congr 2;lia
 ·rename_i c;unfold kq;rw[aaD,kP c];simp
def bV (d:Dc)(ws:List (Rw×Int)):Dc:=ws.foldl (λd p=>oG d p.1 p.2) d
theorem yt:∀(ws:List (Rw×Int)) {d:Dc},Nd d->Ps d->(∀p∈ws,1<=p.2)->Nd (bV d ws)/\Ps (bV d ws)/\∀f,kq (bV d ws) f=kq d f+(ws.map λp=>p.2*f p.1).sum
 | [],d,n,p,_=>⟨n,p,λf=>by show kq d f=_;simp⟩
 |q::ws,d,n,p,h=>by
  have n1:Nd (oG d q.1 q.2):=LB _ _ n;have p1:Ps (oG d q.1 q.2):=Td p (by have:=BZ p q.1;have:=h q aae;lia);obtain⟨a,b,c⟩:=yt ws n1 p1 λx hx=>h x (aai _ hx);refine⟨a,b,λf=>?_⟩;show kq (bV _ ws) f=_;rw[c f,B1 _ _ _ n,aal,aaS];lia
theorem LC {d:Dc}(n:Nd d)(k:Rw):kq d (λx=>if x=k then 1 else 0)=kO d k:=by
 induction d with
 |nil=>rfl
 |cons q d ih=>
  have n':=n;unfold Nd at n';rw[aal,abe] at n';have:=ih n'.2;unfold kq at this ⊢;rw[aal,aaS,this,jn];show q.2*(if q.1=k then 1 else 0)+_=_;by_cases c:q.1=k
  ·rw[hZ c,hZ c,kP (c▸n'.1)];lia
  ·rw[hV c,hV c];lia
def OO (d:Dc):Int:=(d.map (·.2)).sum
theorem LD {a b:List Int}(p:a.Perm b):a.sum=b.sum:=by
 induction p with
 |nil=>rfl
 |cons x _ ih=>rw[aaS,aaS,ih]
 |swap x y l=>rw[aaS,aaS,aaS,aaS];lia
 |trans _ _ i1 i2=>rw[i1,i2]
def xq {a b:List Rw}(p:a.Perm b):fX a=fX b:=uf (((aH a).trans p).trans (aH b).symm) (my a) (my b)
def fW (l:List Rw):Dc:=bV [] (l.map λx=>(x,1))
theorem Ef:Nd []/\Ps []:=⟨ab1,λp hp=>by cases hp⟩
theorem v7 (l:List Rw):Nd (fW l)/\Ps (fW l)/\∀f,kq (fW l) f=(l.map f).sum:=by
 obtain⟨a,b,c⟩:=yt (l.map λx=>(x,(1:Int))) Ef.1 Ef.2 λp hp=>by
  obtain⟨x,_,rfl⟩:=aan.mp hp;exact aeF _
 refine⟨a,b,λf=>?_⟩;have:=c f;rw[aat] at this;unfold fW;rw[this];show (0:Int)+_=_;simp[afB,aav]
theorem pY {α β:Type}(g:α->List β)(h:β->Int):∀l:List α,((l.flatMap g).map h).sum=(l.map λa=>((g a).map h).sum).sum
 | []=>rfl
 |a::l=>by rw[abR,aaD,sum_append,aal,aaS,pY g h l]
theorem F6 (k:Int):∀l:List Int,(l.map λx=>k*x).sum=k*l.sum
 | []=>by simp
 |x::l=>by rw[aal,aaS,aaS,F6 k l,Int.mul_add]
theorem F7 (l:List Rw):OO (fW l)=l.length:=by
 obtain⟨n,p,s⟩:=v7 l;have:=s λ_=>1;unfold kq at this;unfold OO;have e:((fW l).map λp=>p.2*1)=(fW l).map (·.2):=by
  lia
 rw[e] at this;rw[this];clear this e s p n
 induction l with
 |nil=>rfl
 |cons x l ih=>rw[aal,aaS,ih,aaw];lia
theorem Te {l:List Int}(h:∀x∈l,0<=x):∀x∈l,x<=l.sum:=by
 induction l with
 |nil=>simp
 |cons y l ih=>
  intro x hx;have hl:0<=l.sum:=by
   clear ih hx
   induction l with
   |nil=>exact aeF _
   |cons z l ih2=>
    rw[aaS];have:=ih2 λw hw=>h w (by rcases aaA.mp hw with e|e;exact e▸aae;exact aai _ (aai _ e));have:=h z (aai _ aae);lia
  rw[aaS];rcases aaA.mp hx with rfl|hx
  ·lia
  ·have:=ih (λw hw=>h w (aai _ hw)) x hx;have:=h y aae;lia
theorem Tf {d:Dc}(p:Ps d):∀q∈d,q.2<=OO d:=λq hq=>Te (λx hx=>by
 obtain⟨r,hr,rfl⟩:=aan.mp hx;have:=p r hr;lia) q.2 (abi hq)
end Hc.Cn
namespace Hc
open L2
open Hc.Cn Hc.Ts
def NS:(0:Nat)<=aaf/\(1:Nat)<=aaf/\(2:Nat)<=aaf/\(3:Nat)<=aaf/\(4:Nat)<=aaf/\(5:Nat)<=aaf/\(6:Nat)<=aaf/\(10:Nat)<=aaf/\(16:Nat)<=aaf/\(18:Nat)<=aaf/\(22:Nat)<=aaf:=by decide
def Pzz:=zyy @ax<|zyy @bZ @NS
theorem bz {α:Type}{f:U->R (Option U)}{c g:α->U}:∀{xs:List α},(∀x∈xs,f (c x)=.ok (some (g x)))->G_ f (xs.map c)=.ok (xs.map g)
 | [],_=>rfl
 |x::xs,h=>by
  rw[aal];unfold G_;rw[h x aae];rw[bz λy hy=>h y (aai _ hy)];rfl
def Wj {ws:List U}:ud (.lst us) [.lst ws]=if us.length+ws.length<=aaf then .ok (.non,.lst (us++ws)) else .stk:=nr rfl
def wV (s:U):Prop:=∃v b,s=.lst [.int v,.bl b]/\0<=v/\(b=false->v<2147483647)
theorem fP {s:U}{m:Int}(h:wV s)(h0:0<m)(h1:m<18446744073709551616):∃r s',aK [s,.int m]=.ok (.int r,s')/\0<=r/\r<m/\wV s':=by
 obtain⟨v,b,rfl,hv,hb⟩:=h;cases b with
 |true=>
  refine⟨v % m,.lst _,?_,adD _ (by lia),adk _ h0,v / m,true,rfl,Int.ediv_nonneg hv (by lia),λh=>nomatch h⟩;simp only[aK,j4,Pzz,gz,hG h0,zc h0 h1]
 |false=>
  have g1:0<=(v*48271+29) % 2147483647:=adD _ (by decide);have g2:(v*48271+29) % 2147483647<2147483647:=adk _ (by decide);have c1:lq v 48271=true:=mm (by decide) (by decide);have d1:decide ((0:Int)<2147483647)=true:=by decide
  have d2:decide ((0:Int)<2147483629)=true:=by decide
  have d3:decide ((0:Int)<2147483587)=true:=by decide
  have e8:C7 (((((v*48271+29) % 2147483647)*((v*48271+29) % 2147483647)+39373*((v*48271+29) % 2147483647)+7) % 2147483629*((((v*48271+29) % 2147483647)*((v*48271+29) % 2147483647)+39373*((v*48271+29) % 2147483647)+7) % 2147483629)+16807*((((v*48271+29) % 2147483647)*((v*48271+29) % 2147483647)+39373*((v*48271+29) % 2147483647)+7) % 2147483629)) % 2147483587) 8=true:=zc (by decide) (by decide);have c2:lq _ ((v*48271+29) % 2147483647)=true:=ze g1 (by lia);have c3:lq 39373 ((v*48271+29) % 2147483647)=true:=ze (by decide) (by decide);generalize hs:(v*48271+29) % 2147483647=s1 at *;have g3:0<=(s1*s1+39373*s1+7) % 2147483629:=adD _ (by decide);have c4:lq _ ((s1*s1+39373*s1+7) % 2147483629)=true:=ze g3 (by grind);have c5:lq 16807 ((s1*s1+39373*s1+7) % 2147483629)=true:=ze (by decide) (by decide);refine⟨((s1*s1+39373*s1+7) % 2147483629*((s1*s1+39373*s1+7) % 2147483629)+16807*((s1*s1+39373*s1+7) % 2147483629)) % 2147483587 / 8 % m,.lst _,?_,adD _ (by lia),adk _ h0,s1,false,rfl,g1,λ_=>g2⟩
  simp_all[aK,j4,Pzz,gz,hG]
theorem LF {us:List U}{k:Int}(hu:u=.scr (ns.map .int)\/u=.lst (ns.map .int))(h0:0<=k):∃s,gP [u,.int k]=.ok s/\wV s:=by
 obtain⟨k,rfl⟩:∃n:Nat,k=n:=⟨k.toNat,by (simp;lia)⟩;have GJ:∃c:Int,dX [u,.int k]=.ok (.int c):=by
  by_cases hk:k<ns.length
  ·refine⟨ns[k],?_⟩;have d:decide ((k:Int)<((ns.map U.int).length:Nat))=true:=by rw[aaa];exact hG (by simp[*])
   have e:qj (ns.map U.int) (k:Int)=some (.int ns[k]):=by rw[j0,aar,aad hk];rfl
   rcases hu with rfl|rfl<;>simp only[dX,gO,Pzz,gz,d,e]
  ·refine⟨0,?_⟩;have d:decide ((k:Int)<((ns.map U.int).length:Nat))=false:=by rw[aaa];exact hJ (by simp[*])
   rcases hu with rfl|rfl<;>simp only[dX,gO,Pzz,gz,d]
 obtain⟨c,hc⟩:=GJ;have ð:NJ 10 18=true:=by decide
 have þ:(10:Int) ^ (18:Int).toNat=1000000000000000000:=by decide
 have dm:decide ((0:Int)<2147483647)=true:=by decide
 by_cases h:1000000000000000000<=c
 ·refine⟨.lst [.int (c-1000000000000000000),.bl true],?_,_,true,rfl,by simp[*],λh=>nomatch h⟩;simp only[gP,jh,Pzz,gz,Nat.reduceAdd,hc,ð,þ,hG h]
 ·refine⟨.lst [.int (c % 2147483647),.bl false],?_,_,false,rfl,adD _ (by decide),λ_=>adk _ (by decide)⟩;simp only[gP,jh,Pzz,gz,Nat.reduceAdd,hc,ð,þ,hJ h,dm]
theorem v8 {α:Type}:∀(l:List α) (i:Nat) (h:i<l.length),(l[i]::l.eraseIdx i).Perm l
 |x::l,0,_=>abB _
 |x::l,i+1,h=>by
  have h' :=by simpa using h
  exact (List.Perm.swap _ _ _).trans (List.Perm.cons x (v8 l i h'))
theorem pZ {α β:Type}(f:α->β):∀(l:List α) (i:Nat),(l.map f).eraseIdx i=(l.eraseIdx i).map f
 | [],_=>rfl
 |_::_,0=>rfl
 |x::l,i+1=>by
  show f x::(l.map f).eraseIdx i=f x::(l.eraseIdx i).map f;rw[pZ f l i]
theorem Tg {k:Int}{y:U}(h1:afM k us.length=some j)(h2:us[j]? = some y)(h3:0<=k)(h4:k<1000000000):qC (.lst us) [.int k]=.ok (y,.lst (us.eraseIdx j)):=by
 unfold qC;dsimp only;rw[hZ (by lia),h1];dsimp only;rw[h2]
def bA (n:Nat)(os:List Int):Prop:=os.Perm (aQ n)
theorem p6 {s:U}(h:wV s)(h1:m<=1000):∃(os:List Int) (s':U),bM [s,.int m]=.ok (.tup (os.map .int),s')/\bA m os/\wV s':=by
 obtain⟨ys,⟨left,s'⟩,e,l,os,hr,hp,Ih⟩:=pD (G:=lE) (js:=[none,some 2,some 0]) (sg:=ba 0) (ge:=gM "list" 1 qC (af (qx 2 2 aK (af (fi gy (b1x 1)) aq)) aq))
  (λx:List Int×U=>[some x.2,some (.int m),some (.lst (x.1.map .int))]) m (λys x=>∃os:List Int,ys=os.map .int/\(os++x.1).Perm (aQ m)/\wV x.2)
  (λdone u x hd θ=>by
   obtain⟨os,hr,hp,hs⟩:=θ;obtain⟨left,s⟩:=x;have hl:0<left.length:=by
    have:=hp.length_eq;rw[aay,iy] at this;have h2:done.length=os.length:=by rw[hr,aaa]
    dsimp only at this;lia
   have Rj:left.length<=m:=by
    have:=hp.length_eq;rw[aay,iy] at this;dsimp only at this;lia
   obtain⟨r,s',b1,b2,b3,b4⟩:=fP (m:=left.length) hs (by simp[*]) (by lia);obtain⟨k,rfl⟩:∃n:Nat,r=n:=⟨r.toNat,by lia⟩;have hk:k<left.length:=by simp_all
   refine⟨[some u,some _,some s],.int left[k],[some u,some _,some s'],(left.eraseIdx k,s'),rfl,?_,rfl,os++[left[k]],by rw[hr,aaD];rfl,?_,b4⟩
   ·have hx:afM (k:Int) (left.map U.int).length=some k:=by
     unfold afM;simp;grind
    have hy:(left.map U.int)[k]? = some (.int left[k]):=by rw[aar,aad hk];rfl
    have pp:=Tg hx hy (by omega) (by lia);rw[pZ] at pp;simp only[Pzz,aaa,b1,pp]
   ·rw[acg];refine List.Perm.trans (aeN os ?_) hp;exact v8 left k hk) (bu 0 m) [] (aQ m,s) (by rw[bP];simp) ⟨[],rfl,abB _,h⟩
 rw[bP] at l;have ln:=by
  have:=congrArg aev hr;rw[adq,aaa] at this;omega
 have le:left=[]:=by
  have:=hp.length_eq;rw[aay,iy] at this;dsimp only at this;exact acs (by simp_all)
 subst le;rw[abG] at hp;rw[adq] at hr;refine⟨os,s',?_,hp,Ih⟩;rw[hr] at e;simp only[bM,lF,Pzz,gz,gI m (by lia),y9 m (by lia),gJ] at e ⊢;simp only[Pzz,e]
theorem iP (n:Nat):bu 0 n=(aax n).map λi=>U.int (i:Nat):=by
 rw[gJ];unfold aQ;rw[aat];rfl
def DU (d:Dc):U:=.dct (d.map λp=>ah p.1) (d.map λp=>.int p.2)
def Eg (d:Dc):List U:=d.map λp=>ah p.1
def LG (d:Dc):List U:=d.map λp=>U.int p.2
theorem F8:∀{a b:List Int},a.map U.int=b.map U.int->a=b
 | [],[],_=>rfl
 | [],_::_,h=>by cases h
 |_::_,[],h=>by cases h
 |x::a,y::b,h=>by
  injection h with h1 h2
  cases h1;rw[F8 h2]
theorem fz {a b:List Int}:ah a=ah b↔a=b:=by
 constructor
 ·intro h;injection h with h
  exact F8 h
 ·intro h;rw[h]
theorem zK {d:Dc}{k:List Int}:ah k∈Eg d↔k∈d.map (·.1):=by
 constructor
 ·intro h;obtain⟨p,hp,e⟩:=aan.mp h;rw[←fz.mp e];exact abi hp
 ·intro h;obtain⟨p,hp,rfl⟩:=aan.mp h;exact abi hp
theorem Th (d:Dc)(k:List Int)(v:Int):er (Eg d) (ah k)=Eg (lI d k v):=by
 unfold er;have e:Eg (lI d k v)=((lI d k v).map (·.1)).map ah:=by rw[aat];rfl
 rw[e,pX];by_cases c:k∈d.map (·.1)
 ·rw[hZ (zK.mpr c),hZ c];rw[aat];rfl
 ·rw[hV (λz=>c (zK.mp z)),hV c,aaD];rw[aat];rfl
theorem LH (k:List Int)(v:Int):∀d:Dc,ack (λa u=>if a=ah k then U.int v else u) (Eg d) (LG d)=LG (d.map λp=>if p.1=k then (p.1,v) else p)
 | []=>rfl
 |p::d=>by
  have ih:=LH k v d;unfold Eg LG at ih ⊢;rw[aal,aal,aal,abp];congr 1;by_cases c:p.1=k
  ·lia
  ·rw[hV (λz=>c (fz.mp z)),hV c]
theorem Ti (d:Dc)(k:List Int)(v:Int):dP (Eg d) (LG d) (ah k) (.int v)=LG (lI d k v):=by
 unfold dP lI;by_cases c:k∈d.map (·.1)
 ·rw[hZ (zK.mpr c),hZ c,LH]
 ·rw[hV (λz=>c (zK.mp z)),hV c];unfold LG;rw[aaD];rfl
theorem LJ (k:List Int):∀d:Dc,fJ (Eg d) (LG d) (ah k)=if k∈d.map (·.1) then some (.int (kO d k)) else none
 | []=>rfl
 |p::d=>by
  have ih:=LJ k d;unfold Eg LG at ih ⊢;rw[aal,aal];unfold fJ;rw[ih,jn];by_cases c:p.1=k
  ·rw[hZ (fz.mpr c),hZ (by rw[aal,c];exact aae),hZ c]
  ·rw[hV (λz=>c (fz.mp z)),hV c];by_cases c2:k∈d.map (·.1)
   ·rw[hZ c2,hZ (by exact aai _ c2)]
   ·rw[hV c2,hV (by rw[aal,aaA,not_or];exact⟨λz=>c z.symm,c2⟩)]
theorem B2:∀l:List Int,A_ (l.map U.int)=true
 | []=>rfl
 |x::l=>by rw[aal];unfold A_;rw[B2 l];rfl
theorem B3:∀l:List Int,AN (l.map U.int)=0
 | []=>rfl
 |x::l=>by rw[aal];unfold AN;rw[B3 l];rfl
theorem kQ (k:List Int):qD (ah k)=true:=by
 show (A_ _&&decide _)=true;rw[B2,B3];rfl
theorem Wl (d:Dc):(Eg d).all JE=true:=aaK.mpr λu hu=>by
 obtain⟨p,_,rfl⟩:=aan.mp hu;rfl
theorem Wm (d:Dc):(Eg d).all SK=true:=aaK.mpr λu hu=>by
 obtain⟨p,_,rfl⟩:=aan.mp hu;rfl
theorem F9 (d:Dc)(k:List Int):pj (Eg d) (ah k)=true:=by
 unfold pj;rw[kQ,Wl];exact Bool.or_true _
theorem LL {d:Dc}(h:d≠[]):DC (Eg d)=true:=by
 unfold DC;rw[Wm];cases d with
 |nil=>lia
 |cons=>rfl
def YG (i:Nat)(v k:U)(ρ:Ev)(o:Option (Option U)):SR:=match o with
 |some (some (.dct ks us))=>if pj ks k=true/\us.length<aaf then .nx (ρ.set i (some (.dct (er ks k) (dP ks us k v)))) else .stk
 |_=>.stk
def Eh {gv gk:Ev->R (U×Ev)}:om i gv gk ρ=SR.of (gv ρ) λx=>if Fy x.2[i]? = true then SR.of (gk x.2) λy=>YG i x.1 y.1 y.2 y.2[i]? else .stk:=nr rfl
theorem zL {d:Dc}(h:d.length<1000000){v:Int}{k:List Int}:YG i (.int v) (ah k) ρ (some (some (DU d)))=.nx (ρ.set i (some (DU (lI d k v)))):=by
 have sz:aaf=16777216:=rfl;have:YG i (.int v) (ah k) ρ (some (some (DU d)))=.nx (ρ.set i (some (.dct (er (Eg d) (ah k)) (dP (Eg d) (LG d) (ah k) (.int v))))):=hZ ⟨F9 d k,by show (LG d).length<_;unfold LG;rw[aaa,sz];lia⟩;rw[this,Th d k v,Ti];rfl
def YH (k x:U)(ρ:Ev)(o:Option (Option U)):R (U×Ev):=match o with
 |some (some (.dct ks us))=>if pj ks k=true then .ok ((fJ ks us k).getD x,ρ) else .stk
 |_=>.stk
def Z0 (i:Nat)(g2 g3:Ev->R (U×Ev))(ρ:Ev)(o:Option (Option U)):R (U×Ev):=match o with
 |some (some (.dct _ _))=>(g2 ρ).bind λk=>(g3 k.2).bind λx=>YH k.1 x.1 x.2 x.2[i]?
 |_=>.stk
def zM {g2 g3:Ev->R (U×Ev)}:lA i g2 g3 ρ=Z0 i g2 g3 ρ ρ[i]? := nr rfl
def zN {g2 g3:Ev->R (U×Ev)}{d:Dc}:Z0 i g2 g3 ρ (some (some (DU d)))=(g2 ρ).bind λk=>(g3 k.2).bind λx=>YH k.1 x.1 x.2 x.2[i]? := nr rfl
theorem zO {d:Dc}{k:List Int}:YH (ah k) (.int 0) ρ (some (some (DU d)))=.ok (.int (kO d k),ρ):=by
 refine (hZ (F9 d k)).trans ?_;rw[show fJ (d.map _) (d.map _) (ah k)=_ from LJ k d];split
 ·rfl
 ·rename_i c;rw[kP c];rfl
theorem lJ (ws:List (List Int×Int)):(bV [] ws).length<=ws.length:=by
 have:∀(ws:List _) (d:Dc),(bV d ws).length<=d.length+ws.length:=by
  intro ws
  induction ws with
  |nil=>intro d;exact aaq _
  |cons p ws ih=>
   intro d;have h1:=ih (oG d p.1 p.2);have h2:(oG d p.1 p.2).length<=d.length+1:=by
    unfold oG lI;split
    ·rw[aaa];lia
    ·rw[aay];exact aaq _
   rw[aaw];show (bV (oG d p.1 p.2) ws).length<=_;lia
 have:=this ws [];simpa using this
theorem sN (d:Dc)(ws:List (List Int×Int))(p:List Int×Int):bV d (ws++[p])=oG (bV d ws) p.1 p.2:=by
 unfold bV;rw[afR];rfl
def SU (ss:List (List Int)):U:=.tup (ss.map ah)
theorem LM {s:Nat}{x:U}(ss:List (List Int))(hl:ss.length<100000)(mk:Dc->Option U->Ev)(step:∀(d:Dc) (o:Option U) (k:List Int),d.length<1000000->∃η,ba j (ah k) (mk d o)=.ok η/\om i (aR iM (lA i (ag j) (zqc 0)) (zqc 1)) (ag j) η=.nx (mk (lI d k (kO d k+1)) (some (ah k))))(o:Option U) :
  ∃o',dO (ba j) (om i (aR iM (lA i (ag j) (zqc 0)) (zqc 1)) (ag j)) (ss.map ah) (mk [] o)=.nx (mk (fW ss) o'):=by
 obtain⟨ε,e1,o',e2⟩:=cF
  (λn ρ=>∃o,ρ=mk (bV [] ((ss.take n).map λx=>(x,1))) o)
  (λn u ρ hu θ=>by
   obtain⟨o,hr⟩:=θ;subst hr;have hn:n<ss.length:=by have:=(aap.mp hu).1;rwa [aaa] at this
   rw[aar,aad hn] at hu;obtain rfl:ah ss[n]=u:=by injection hu
   obtain⟨η,a,b⟩:=step (bV [] ((ss.take n).map λx=>(x,1))) o ss[n] (ab8 (lJ _) (by rw[aaa,aa2];lia));refine⟨η,_,a,.inl b,some (ah ss[n]),?_⟩;rw[aaO hn,aaD];show _=mk (bV [] (_++[(ss[n],1)])) _;rw[sN];rfl)
  (ρ:=mk [] o) ⟨o,rfl⟩
 refine⟨o',?_⟩;rw[e1,e2,aaa,abj];rfl
theorem Ei {x:U}(hx:jc x=λρ=>.ok (ss.map ah,ρ))(hl:ss.length<100000):kJ [x]=.ok (DU (fW ss)):=by
 obtain⟨o',e⟩:=LM (s:=0) (x:=x) (i:=1) (j:=2) ss hl (λd o=>[some x,some (DU d),o]) (λd o k hd=>⟨[some x,some (DU d),some (ah k)],rfl,by
  simp only[Pzz,Eh,zM,zN,zO,zL hd]⟩) none
 have e0:DU []=.dct [] []:=rfl;rw[e0] at e;unfold kJ qM;simp only[Pzz,gz,hx,e]
theorem LN {a b:Int}(h0:0<=a)(h1:0<b):(adh b.toNat (a % b).toNat)=adh a.toNat b.toNat:=by
 obtain⟨n,rfl⟩:∃n:Nat,a=n:=⟨a.toNat,by lia⟩;obtain⟨m,rfl⟩:∃m:Nat,b=m:=⟨b.toNat,by (simp;lia)⟩;have e:((n:Int) % (m:Int)).toNat=n % m:=by rfl
 rw[e,abt,abt,Nat.gcd_comm m (n % m),←Nat.gcd_rec,Nat.gcd_comm]
theorem QX {i:Int}(h:0<=i):Ha [.int i]=.ok (.int i):=by
 have e:Ha [.int i]=.ok _:=nr rfl;rw[e,hV (by lia)]
theorem F_:∀(n:Nat) (a b:Int) (o:Option U),0<=a->0<=b->b<n->∃o',l7 (gB (aR (je not) (ag 1) (zqc 0))) (aD (bg 2 (aR uN (ag 0) (ag 1))) (aD (bg 0 (ag 1)) (bg 1 (ag 2)))) n [some (.int a),some (.int b),o]=.nx [some (.int (adh a.toNat b.toNat)),some (.int 0),o']
 |0,a,b,o,h0,h1,h2=>by (simp at *;lia)
 |n+1,a,b,o,h0,h1,h2=>by
  by_cases c:b=0
  ·subst c;refine⟨o,?_⟩;have:((adh a.toNat (0:Int).toNat:Nat):Int)=a:=by (simp;lia)
   simp_all[Pzz,Int.reduceBEq,FI]
  ·have hb:0<b:=by lia
   obtain⟨o',e⟩:=F_ n b (a % b) (some (.int (a % b))) h1 (adD _ c) (by have:=adk a hb;(simp;lia));simp_all[LN,Pzz,FI,hG]
theorem Wn {a b:Int}(h0:0<=a)(h1:0<=b)(h2:b<1000000000000000):bX [.int a,.int b]=.ok (.int (adh a.toNat b.toNat)):=by
 obtain⟨o',e⟩:=F_ _ a b none h0 h1 h2;unfold bX gj;simp only[Pzz,gz,QX h0,QX h1,e]
def Z1 (u:U)(ρ:Ev):R (List U×Ev):=match u with
 | .dct ks us=>if DC ks=true then .ok (ack (λk u=>.tup [k,u]) ks us,ρ) else .stk
 |_=>.stk
def Wo {g:Ev->R (U×Ev)}:V7 g ρ=(g ρ).bind λx=>Z1 x.1 x.2:=nr rfl
def XD (p:List Int×Int):U:=.tup [ah p.1,.int p.2]
theorem Ga {d:Dc}(h:d≠[]):Z1 (DU d) ρ=.ok (d.map XD,ρ):=by
 refine (hZ (LL h)).trans ?_;have e:∀d:Dc,ack (λk u=>U.tup [k,u]) (d.map λp=>ah p.1) (d.map λp=>U.int p.2)=d.map XD:=by
  intro d
  induction d with
  |nil=>rfl
  |cons p d ih=>rw[aal,aal,abp,ih];rfl
 rw[e]
noncomputable def YI (i:Nat):SR->SR
 | .nx ε=>.nx (ε.set i none)
 | .bk ε=>.bk (ε.set i none)
 | .ct ε=>.ct (ε.set i none)
 | .rt u ε=>.rt u (ε.set i none)
 |r=>r
theorem B4 {g:Ev->SR}:vt i g ρ=YI i (g ρ):=nr (by unfold vt YI;cases g ρ<;>rfl)
def zP:YI i (.rt u ρ)=.rt u (ρ.set i none):=nr rfl
def B5 {a b:U}:bL 2 (ay (ba i) (ay (ba j) bT)) (.tup [a,b]) ρ=.ok ((ρ.set i (some a)).set j (some b)):=nr rfl
def aJ (a b:List Int):List Int:=b.map λi=>a.getD i.toNat 0
theorem OP {a b:List Int}(h:∀i∈b,0<=i/\i<a.length):G_ (nI [none,some 0] (ba 0) bO (aR dq (ag 1) (ag 0)) [some (ah a),some (ah b)]) (b.map U.int)=.ok ((aJ a b).map U.int):=by
 have e:=bz (f:=nI [none,some 0] (ba 0) bO (aR dq (ag 1) (ag 0)) [some (ah a),some (ah b)]) (c:=U.int) (g:=λi:Int=>U.int (a.getD i.toNat 0)) λi hi=>by
  obtain⟨h0,h1⟩:=h i hi;obtain⟨n,rfl⟩:∃n:Nat,i=n:=⟨i.toNat,by lia⟩;have hn:n<a.length:=by (simp at *;lia)
  have e1:qj (a.map U.int) (n:Int)=some (.int a[n]):=by rw[j0,aar,aad hn];rfl
  have e2:a.getD (n:Int).toNat 0=a[n]:=by rw[abt,aag,aad hn];rfl
  simp only[Pzz,ah,e1,e2]
 rw[e];unfold aJ;rw[aat];rfl
theorem v9 {a b:List Int}(h:∀i∈b,0<=i/\i<a.length)(hl:b.length<=1000):cv [ah a,ah b]=.ok (ah (aJ a b)):=by
 have e:=OP h;have sz:((aJ a b).map U.int).length<=aaf:=by rw[aaa];unfold aJ;rw[aaa];have:aaf=16777216:=rfl;lia
 unfold cv oz;simp only[ah] at e ⊢;simp only[Pzz,gz,Nat.reduceAdd,Nat.reduceSub,e]
theorem kR:∀ns:List Int,jr (ns.map U.int)=some ns
 | []=>rfl
 |n::ns=>by show (jr _).map _=_;rw[kR ns];rfl
theorem p7:∀{nj:List (List Int)},(∀ns∈nj,ns≠[])->sH (nj.map ah)=some nj
 | [],_=>rfl
 |ns::nj,h=>by
  rw[aal];unfold sH;have e1:Od (ah ns)=some ns:=by
   show (match jr _ with|some (n::ns)=>some (n::ns)|_=>none)=_;rw[kR];cases ns with
   |nil=>exact absurd rfl (h [] aae)
   |cons=>rfl
  rw[e1,p7 λx hx=>h x (aai _ hx)]
theorem OQ (ss:List (List Int)):jc (SU ss)=λρ=>.ok (ss.map ah,ρ):=by funext ρ;exact Dn
def e_ (t b:Int):Int×Int:=(t / (adh t.toNat b.toNat:Nat),b / (adh t.toNat b.toNat:Nat))
def jH (p:Int×Int):U:=.tup [.int p.1,.int p.2]
theorem LO {q:Nat}(hq:0<q)(hm:0<m)(hc:adh p q=1)(h:p*m=n*q):n / adh n m=p/\m / adh n m=q:=by
 have d:=by
  have:q ∣ p*m:=⟨n,by rw[h,abN]⟩;exact (Nat.Coprime.dvd_of_dvd_mul_left (by grind) this)
 obtain⟨k,rfl⟩:=d;have hk:0<k:=Nat.pos_of_ne_zero λe=>by subst e;simp at hm
 have hn:=by
  have:n*q=(p*k)*q:=by rw[←h,abN q k,abP]
  exact Nat.eq_of_mul_eq_mul_right hq this
 subst hn;have g:adh (p*k) (q*k)=k:=by rw[Nat.gcd_mul_right,hc,Nat.one_mul]
 simp[*]
theorem v_ {p q t b:Int}(hp:0<=p)(hq:0<q)(ht:0<=t)(hb:0<b)(hc:adh p.toNat q.toNat=1)(h:p*b=t*q):e_ t b=(p,q):=by
 obtain⟨p,rfl⟩:∃n:Nat,p=n:=⟨p.toNat,by lia⟩;obtain⟨q,rfl⟩:∃n:Nat,q=n:=⟨q.toNat,by lia⟩;obtain⟨t,rfl⟩:∃n:Nat,t=n:=⟨t.toNat,by lia⟩;obtain⟨b,rfl⟩:∃n:Nat,b=n:=⟨b.toNat,by lia⟩;have h' :=by exact_mod_cast h
 obtain⟨e1,e2⟩:=LO (by simp_all) (by simp_all) (by simpa using hc) h';unfold e_;simp only[abt];rw[←Int.natCast_ediv,←Int.natCast_ediv,e1,e2]
theorem rk {t b:Int}(ht:0<=t)(hb:0<b):0<=(e_ t b).1/\0<(e_ t b).2/\(e_ t b).1*b=t*(e_ t b).2/\adh (e_ t b).1.toNat (e_ t b).2.toNat=1/\(e_ t b).2 ∣ b:=by
 obtain⟨t,rfl⟩:∃n:Nat,t=n:=⟨t.toNat,by lia⟩;obtain⟨b,rfl⟩:∃n:Nat,b=n:=⟨b.toNat,by lia⟩;have Aq:0<b:=by lia
 have hg:0<adh t b:=afT _ Aq;have d1:=Nat.gcd_dvd_left t b;have d2:=Nat.gcd_dvd_right t b;unfold e_;simp only[abt];rw[←Int.natCast_ediv];refine⟨Int.natCast_nonneg _,?_,?_,?_,?_⟩
 ·have:=Nat.div_pos (Nat.le_of_dvd Aq d2) hg;(simp;lia)
 ·have:t / adh t b*b=t*(b / adh t b):=by
   generalize adh t b=g at d1 d2
   calc t / g*b=t / g*(b / g*g):=by rw[Nat.div_mul_cancel d2]
    _=(t / g*g)*(b / g):=by rw[abN (b / g) g,abP]
    _=t*(b / g):=by rw[Nat.div_mul_cancel d1]
  exact_mod_cast this
 ·exact Nat.coprime_div_gcd_div_gcd hg
 ·exact Int.natCast_dvd_natCast.mpr (Nat.div_dvd_of_dvd d2)
theorem Tj {t b t' b':Int}(ht:0<=t)(hb:0<b)(ht':0<=t')(Aq:0<b')(h:t*b'=t'*b):e_ t b=e_ t' b':=by
 obtain⟨r1,r2,r3,r4,_⟩:=rk ht' Aq;refine v_ r1 r2 ht hb r4 ?_;have:=by
  calc ((e_ t' b').1*b)*b'=((e_ t' b').1*b')*b:=by rw[abS,ad8 b b',←abS]
   _=(t'*(e_ t' b').2)*b:=by rw[r3]
   _=(t'*b)*(e_ t' b').2:=by rw[abS,ad8 _ b,←abS]
   _=(t*b')*(e_ t' b').2:=by rw[h]
   _=(t*(e_ t' b').2)*b':=by rw[abS,ad8 b',←abS]
 exact afp (by lia) this
theorem QY {v:Int}{g:Nat}(h:0<g)(h2:g<1000000000000000):jb (.int v) (.int g)=.ok (.int (v / g)):=by
 have d:=hG (by omega);have c:C7 v (g:Int)=true:=zc (by simp[*]) (by lia);simp only[Dq,c,if_true]
theorem H9 {t b:Int}(hb:0<b)(h2:b<1000000000000000):0<adh t.toNat b.toNat/\adh t.toNat b.toNat<1000000000000000:=by
 grind[afT,Nat.gcd_le_right]
theorem B6 {t b:Int}(h0:0<=t)(h1:0<b)(h2:b<1000000000000000):j1 [.int t,.int b]=.ok (jH (e_ t b)):=by
 have e:=Wn h0 (by lia) h2;obtain⟨g1,g2⟩:=H9 (t:=t) h1 h2;have d:decide (b<0)=false:=hJ (by (simp;lia));unfold j1 zy;simp only[Pzz,gz,e,d,QY g1 g2];rfl
def wt (D:Int)(g:Int×Int):Int:=g.1*(D / g.2)
theorem QZ {D:Int}{g:Int×Int}(h:g.2 ∣ D):g.1*D=wt D g*g.2:=by
 unfold wt;rw[abS,Int.ediv_mul_cancel h]
def Ej (D:Int)(g:Int×Int):Prop:=0<=g.1/\0<g.2/\g.2 ∣ D
theorem Q0 {D:Int}(hD:0<D){g:Int×Int}(h:Ej D g):0<=wt D g:=adU h.1 (Int.ediv_nonneg (by lia) (by have:=h.2.1;lia))
theorem OR {f1 f2 g1 g2 S w D:Int}(h1:f1*D=S*f2)(h2:g1*D=w*g2):(f1*g2+g1*f2)*D=(S+w)*(f2*g2):=by
 grind
theorem LP {D:Int}(hD:0<D):∀{l:List (Int×Int)},(∀g∈l,Ej D g)->0<=(l.map (wt D)).sum
 | [],_=>by simp
 |g::l,h=>by
  rw[aal,aaS];have a:=Q0 hD (h g aae);have b:=LP hD λx hx=>h x (aai _ hx);lia
theorem LQ {D S:Int}(hD:0<D)(hS:0<=S){g:Int×Int}(h:Ej D g):e_ ((e_ S D).1*g.2+g.1*(e_ S D).2) ((e_ S D).2*g.2)=e_ (S+wt D g) D:=by
 obtain⟨r1,r2,r3,_,_⟩:=rk hS hD;obtain⟨g0,g1,g2⟩:=h;have w0:=Q0 hD ⟨g0,g1,g2⟩;refine Tj ?_ (afj r2 g1) (by lia) hD (OR r3 (QZ g2));exact Int.add_nonneg (adU r1 (by lia)) (adU g0 (by lia))
theorem LS {D:Int}(hD:0<D):e_ 0 D=(0,1):=v_ (by decide) (by decide) (by decide) hD (by decide) (by simp)
theorem wa {vf:List Int->U}(k:List Int):∀ks:List (List Int),fJ (ks.map ah) (ks.map vf) (ah k)=if k∈ks then some (vf k) else none
 | []=>rfl
 |x::ks=>by
  rw[aal,aal];unfold fJ;by_cases c:x=k
  ·subst c;rw[hZ rfl,hZ aae]
  ·rw[hV (λz=>c (fz.mp z)),wa k ks];grind
theorem p8 {k:List Int}{ks:List (List Int)}:ah k∈ks.map ah↔k∈ks:=by
 constructor
 ·intro h;obtain⟨x,hx,e⟩:=aan.mp h;rw[←fz.mp e];exact hx
 ·exact λh=>abi h
theorem Gb (ks:List (List Int))(k:List Int):er (ks.map ah) (ah k)=(gg ks k).map ah:=by
 unfold er gg;by_cases c:k∈ks
 ·rw[hZ (p8.mpr c),hZ c]
 ·rw[hV (λz=>c (p8.mp z)),hV c,aaD];rfl
theorem Q1 {vf:List Int->U}{w:U}(k:List Int):∀ks:List (List Int),ack (λk' u=>if k'=ah k then w else u) (ks.map ah) (ks.map vf)=ks.map λk'=>if k'=k then w else vf k'
 | []=>rfl
 |x::ks=>by
  rw[aal,aal,abp,Q1 k ks,aal];by_cases c:x=k
  ·rw[hZ (fz.mpr c),hZ c]
  ·rw[hV (λz=>c (fz.mp z)),hV c]
theorem Gd {vf:List Int->U}{w:U}(ks:List (List Int))(k:List Int):dP (ks.map ah) (ks.map vf) (ah k) w=(gg ks k).map λk'=>if k'=k then w else vf k':=by
 unfold dP gg;by_cases c:k∈ks
 ·rw[hZ (p8.mpr c),hZ c,Q1]
 ·rw[hV (λz=>c (p8.mp z)),hV c,aaD];congr 1
  ·refine aav λx hx=>?_;rw[hV (λ(e:x=k)=>c (e▸hx))]
  ·show [w]=[if k=k then w else _];rw[hZ rfl]
theorem cG:∀(l b8:List (List Int)) (x:List Int),x∈l.foldl gg b8↔x∈b8\/x∈l
 | [],b8,x=>by simp
 |y::l,b8,x=>by
  rw[afe,cG l _ x,aaA];grind[gg,aaQ,aau]
theorem lK:∀(l b8:List (List Int)),b8.Nodup->(l.foldl gg b8).Nodup
 | [],b8,h=>h
 |y::l,b8,h=>by
  refine lK l _ ?_;grind[gg,abE,aau]
theorem kS:∀(l b8:List (List Int)),(l.foldl gg b8).length<=b8.length+l.length
 | [],b8=>by simp
 |y::l,b8=>by
  rw[afe,aaw];have:=kS l (gg b8 y);have h2:(gg b8 y).length<=b8.length+1:=by unfold gg;split<;>simp
  lia
theorem Tn {ks:List (List Int)}(h:ks≠[])(ln:ks.length<64)(hr:∀k∈ks,k≠[]):vC [.dct (ks.map ah) us]=.ok (.lst ((fX ks).map ah)):=by
 have w:DC (ks.map ah)=true:=by
  unfold DC;have:(ks.map ah).all SK=true:=aaK.mpr λu hu=>by
   obtain⟨k,_,rfl⟩:=aan.mp hu;rfl
  rw[this];cases ks with
  |nil=>exact absurd rfl h
  |cons=>rfl
 unfold vC;unfold zu;dsimp only;rw[hZ w];unfold mz;rw[p7 hr];exact hZ (by omega)
abbrev Fs:=List (List Int×(Nat->Int))
def ij (F:Fs):List (List Int):=aX (F.map (·.1))
def xr (F:Fs)(k:List Int)(d:Nat):Int:=(F.map λx=>if x.1=k then x.2 d else 0).sum
def wU (nd:Nat)(D:Int)(w:Nat->Int):U:=.tup ((aax nd).map λd=>jH (e_ (w d) D))
def pU (nd:Nat)(D:Int)(p:List Int×(Nat->Int)):U:=.tup [ah p.1,wU nd D p.2]
def dQ (nd:Nat)(D:Int)(m:Fs):U:=.tup (m.map (pU nd D))
def iQ (F:Fs):Fs:=(fX (ij F)).map λk=>(k,xr F k)
theorem fQ {F:Fs}{k:List Int}:k∈ij F↔k∈F.map (·.1):=by
 grind[ij,aX,cG]
theorem LU {α:Type}{f:α->Int}:∀{l:List α},(∀x∈l,f x=0)->(l.map f).sum=0
 | [],_=>rfl
 |x::l,h=>by
  rw[aal,aaS,h x aae,LU λy hy=>h y (aai _ hy)];rfl
theorem zQ {α:Type}{f:α->Int}:∀{l:List α},(∀x∈l,0<=f x)->0<=(l.map f).sum
 | [],_=>by simp
 |x::l,h=>by
  rw[aal,aaS];have a:=h x aae;have b:=zQ λy hy=>h y (aai _ hy);lia
theorem Ge {F:Fs}(h:∀x∈F,∀d,0<=x.2 d)(k:List Int)(d:Nat):0<=xr F k d:=zQ λx hx=>by
 split
 ·exact h x hx d
 ·exact aeF _
def j7 (F:Fs):(ij F).Nodup:=lK _ _ ab1
theorem m9 (F:Fs):(ij F).length<=F.length:=by
 have:=kS (F.map (·.1)) [];unfold ij aX;simpa using this
theorem Ek {a D:Int}(ha:0<=a)(hD:0<D):wt D (e_ a D)=a:=by
 obtain⟨r1,r2,r3,_,r5⟩:=rk ha hD;have:=QZ r5;rw[r3] at this;exact (afp (by lia) this).symm
theorem To {a D:Int}(ha:0<=a)(hD:0<D):Ej D (e_ a D):=by
 obtain⟨r1,r2,r3,_,r5⟩:=rk ha hD;exact⟨r1,r2,r5⟩
structure Sf (n:Nat)(ss:List (List Int)):Prop where
 n1:1<=n
 n8:n<=8
 o:∀o∈ss,bA n o
 l1:1<=ss.length
 l2:ss.length<=24
structure p9 (n nd:Nat)(D:Int)(m:Fs):Prop where
 ne:m≠[]
 nn:(m.map (·.1)).Nodup
 el:∀p∈m,p.1.length=n/\∀d,0<=p.2 d
 ln:m.length<=60
 d0:0<D
 d1:D<=400000
 n1:1<=nd
 n2:nd<=4
def fc (h:bA n o):∀i∈o,0<=i/\i<n:=λi hi=>uZ.mp (h.mem_iff.mp hi)
theorem bR (h:bA n o):o.length=n:=by have:=h.length_eq;rwa [iy] at this
def ff (m:Fs)(ss:List (List Int)):Fs:=m.flatMap λp=>ss.map λo=>(aJ p.1 o,p.2)
theorem wc (m:Fs)(ss:List (List Int)):(ff m ss).length=m.length*ss.length:=by
 unfold ff
 induction m with
 |nil=>simp
 |cons p m ih=>rw[abR,aay,ih,aaa,aaw,Nat.add_mul,Nat.one_mul,afz]
theorem uk {D:Int}{m:Fs}(hm:p9 n nd D m)(hs:Sf n ss):∀x∈ff m ss,x.1.length=n/\∀d,0<=x.2 d:=λx hx=>by
 obtain⟨p,hp,hx⟩:=abz.mp hx;obtain⟨o,ho,rfl⟩:=aan.mp hx;refine⟨?_,(hm.el p hp).2⟩;unfold aJ;rw[aaa];exact bR (hs.o o ho)
theorem Gf {D:Int}{m:Fs}(hm:p9 n nd D m)(hs:Sf n ss):ff m ss≠[]:=λe=>by
 have:=wc m ss;rw[e,abH] at this;have h1:=afk.mpr hm.ne;have:=Nat.mul_pos h1 hs.l1;simp_all
theorem Wq {a:Int}(h:0<=a):e_ a 1=(a,1):=v_ h (by decide) h (by decide) (Nat.gcd_one_right _) rfl
theorem Wr {l:List Int}:dA [.lst (l.map λa=>jH (a,1))]=.ok (.int 1):=by
 obtain⟨ρ,e,o2,rfl⟩:=cF (us:=l.map λa=>jH (a,1)) (sg:=ba 2) (s:=kI) (λi ρ=>∃o2,ρ=[some _,some (.int 1),o2])
  (λi u ρ hu θ=>by
   obtain⟨o2,hr⟩:=θ;subst hr;have hi:=by have:=(aap.mp hu).1;rwa [aaa] at this
   rw[aar,aad hi] at hu;obtain rfl:jH (l[i],1)=u:=by injection hu
   exact⟨[some _,some (.int 1),some _],_,rfl,.inl (by kernel_rfl),some (jH (l[i],1)),rfl⟩)
  (ρ:=[some (.lst (l.map λa=>jH (a,1))),some (.int 1),none]) ⟨_,rfl⟩
 unfold dA iX;simp only[Pzz,gz,e]
def OS {d:Dc}{k:List Int}(v:Int)(h:k∉d.map (·.1)):lI d k v=d++[(k,v)]:=hV h
def rn (d:Nat)(m:Fs):Dc:=m.map λp=>(p.1,p.2 d)
theorem Ws (h:d<nd){D:Int}{w:Nat->Int}:dq (wU nd D w) (.int (d:Nat))=.ok (jH (e_ (w d) D)):=by
 unfold wU;rw[uX,j0,aar,abh h];rfl
theorem Wt (h:d<nd){w:Nat->Int}(hw:0<=w d):dq (wU nd 1 w) (.int (d:Nat))=.ok (jH (w d,1)):=by rw[Ws h,Wq hw]
theorem Wu {m:Fs}(hm:p9 n nd 1 m)(hd:d<nd):ez [dQ nd 1 m,.int (d:Nat)]=.ok (.tup [DU (rn d m),.int 1]):=by
 have ln:=hm.ln;obtain⟨ρ,e,o4',Ã,Ø,rfl⟩:=cF (sg:=bL 2 (ay (ba 4) (ay (ba 5) bT))) (s:=iz)
  (λi ρ=>∃o4 o5 o6,ρ=[some (dQ nd 1 m),some (.int (d:Nat)),some (.int 1),some (DU (rn d (m.take i))),o4,o5,o6])
  (λi u ρ hu θ=>by
   obtain⟨o4,o5,o6,hr⟩:=θ;subst hr;have hi:i<m.length:=by have:=(aap.mp hu).1;rwa [aaa] at this
   rw[aar,aad hi] at hu;obtain rfl:pU nd 1 m[i]=u:=by injection hu
   have ql:(rn d (m.take i)).length<1000000:=by unfold rn;rw[aaa,aa2];lia
   have nk:m[i].1∉(rn d _).map (·.1):=λz=>by
    unfold rn at z;rw[aat] at z;obtain⟨p,hp,e⟩:=aan.mp z;have nd:=hm.nn;rw[←adw i m,aaD,abO] at nd;refine nd.2.2 p.1 (abi hp) m[i].1 (abi ?_) e;rw[abv hi];exact aae
   have sn:rn d (m.take (i+1))=lI (rn d (m.take i)) m[i].1 (m[i].2 d):=by
    rw[OS _ nk];unfold rn;rw[aaO hi,aaD];rfl
   rw[sn];have iw:=Wt hd ((hm.el _ (aaU hi)).2 d);have fd:jb (.int 1) (.int 1)=.ok (.int 1):=by kernel_rfl
   have c:lq (m[i].2 d) 1=true:=mm (by decide) (by decide);refine⟨_,[some _,some _,some (.int 1),some _,some (ah m[i].1),some (wU nd 1 m[i].2),some (jH (m[i].2 d,1))],B5,.inl ?_,_,_,_,rfl⟩;unfold iz;unfold jH at iw ⊢;simp only[Pzz,iw,Eh,zL ql,fd,c,Int.mul_one])
  ⟨_,_,_,rfl⟩
 rw[aaa,abj] at e;have cb:=Wr (l:=m.map λp=>p.2 d);rw[aat] at cb;have cb:dA [.lst (m.map λp=>jH _)]=.ok (.int 1):=cb;have el:=bz (f:=nI [none,none,some 1] (bL 2 (ay (ba 0) (ay (ba 1) bT))) bO (aR dq (ag 1) (ag 2)) [some (dQ nd 1 m),some (.int (d:Nat)),none,none,none,none,none]) (c:=pU nd 1) (g:=λp=>jH (p.2 d,1)) λp hp=>by
  have iw:=Wt hd ((hm.el p hp).2 d);unfold pU;simp only[Pzz,B5,iw]
 have sz:(m.map λp=>jH (p.2 d,1)).length<=aaf:=by
  have:aaf=16777216:=rfl;rw[aaa];lia
 have sb:∀ρ,jc (dQ nd 1 m) ρ=.ok _:=λρ=>rfl;have e:dO _ _ _ [some _,some _,some (.int 1),some (.dct [] []),none,none,none]=_:=e;unfold ez iY;simp only[Pzz,gz,Nat.reduceAdd,sb,el,cb,e,B4,zP]
def kT (W C:Dc):List (List Int×Int):=C.flatMap λo=>W.map λr=>(aJ r.1 o.1,r.2*o.2)
theorem yu (W C:Dc):(kT W C).length=C.length*W.length:=by
 unfold kT
 induction C with
 |nil=>simp
 |cons o C ih=>rw[abR,aay,ih,aaa,aaw,Nat.add_mul,Nat.one_mul,afz]
theorem Wv {W:Dc}(hW:W≠[])(wl:W.length<=1000)(hr:∀r∈W,r.1.length=n){o:List Int×Int}(ho:bA n o.1)(n8:n<=8)(ho0:0<=o.2)(hob:o.2<1000){ws:List (List Int×Int)}(wb:ws.length<10000){o7:Option U} :
  ∃Ã Ø Ý,qO [some (DU W),x1,some (DU (bV [] ws)),some (ah o.1),some (.int o.2),o5,o6,o7]=.nx [some (DU W),x1,some (DU (bV [] (ws++W.map λr=>(aJ r.1 o.1,r.2*o.2)))),some (ah o.1),some (.int o.2),Ã,Ø,Ý]:=by
 obtain⟨ρ,e,Ã,Ø,Ý,rfl⟩:=cF (sg:=bL 2 (ay (ba 5) (ay (ba 6) bT))) (s:=qN)
  (λi ρ=>∃o5 o6 o7,ρ=[some (DU W),x1,some (DU (bV [] (ws++(W.take i).map λr=>(aJ r.1 o.1,r.2*o.2)))),some (ah o.1),some (.int o.2),o5,o6,o7])
  (λi u ρ hu θ=>by
   obtain⟨o5,o6,o7,Φ⟩:=θ;subst Φ;have hi:i<W.length:=by have:=(aap.mp hu).1;rwa [aaa] at this
   rw[aar,aad hi] at hu;obtain rfl:XD W[i]=u:=by injection hu
   have el:=hr _ (aaU hi);have lo:=v9 (λj hj=>by rw[el];exact fc ho j hj) (by rw[bR ho];lia);have ql:(bV [] (ws++(W.take i).map λr=>(aJ r.1 o.1,r.2*o.2))).length<1000000:=by
    grind[lJ,aJ,aay,aaa,aa2]
   have c:lq W[i].2 o.2=true:=mm ho0 (by lia);have sn:bV [] (ws++(W.take (i+1)).map λr=>(aJ r.1 o.1,r.2*o.2))=oG (bV [] (ws++(W.take i).map λr=>(aJ r.1 o.1,r.2*o.2))) (aJ W[i].1 o.1) (W[i].2*o.2):=by
    rw[aaO hi,aaD,←acg,aal,ad7,sN]
   rw[sn];refine⟨[some (DU W),x1,some _,some _,some _,some _,some _,o7],_,B5,.inl ?_,some (ah W[i].1),some (.int W[i].2),some (ah (aJ W[i].1 o.1)),rfl⟩;unfold qN;simp only[Pzz,lo,Eh,zM,zN,zO,c,zL ql];rfl)
  (ρ:=[some (DU W),x1,some (DU (bV [] ws)),some (ah o.1),some (.int o.2),o5,o6,o7]) ⟨o5,o6,o7,by simp⟩
 rw[aaa,abj] at e;refine⟨Ã,Ø,Ý,?_⟩;unfold qO;simp only[Pzz,Wo,Ga hW,e]
theorem zS {l:List (List Int)}{p:List Int×Int}(h:p∈fW l):p.1∈l:=by
 have key:∀(ws:List _) (d:Dc) (p:List Int×Int),p∈bV d ws->p.1∈d.map (·.1)\/p.1∈ws.map (·.1):=by
  intro ws
  induction ws with
  |nil=>exact λd p hp=>.inl (abi hp)
  |cons w ws ih=>
   intro d p hp;rcases ih _ p hp with z|z
   ·unfold oG at z;rw[pX] at z;split at z
    ·exact .inl z
    ·rcases aaQ.mp z with z|z
     ·exact .inl z
     ·rw[aau] at z;exact .inr (by rw[z];exact aae)
   ·exact .inr (aai _ z)
 rcases key _ _ p h with z|z
 ·cases z
 ·rw[aat] at z;obtain⟨x,hx,e⟩:=aan.mp z;rw[←e];exact hx
theorem Gg (l:List (List Int)):(fW l).length<=l.length:=by
 have:=lJ (l.map λx=>(x,1));rw[aaa] at this;exact this
theorem LV (l:List (List Int)):∀p∈fW l,p.2<=l.length:=λp hp=>by
 have:=Tf (v7 l).2.1 p hp
 rwa [F7] at this
theorem Tp {l:List (List Int)}(h:1<=l.length):fW l≠[]:=λe=>by
 grind[F7,OO]
theorem H_ {W:Dc}(hW:W≠[])(wl:W.length<=1000)(hr:∀r∈W,r.1.length=n)(hs:Sf n ss)(wl2:ss.length*W.length<=2000):mE [DU W,SU ss]=.ok (DU (bV [] (kT W (fW ss)))):=by
 have Rj:=hs.l2;have cl:=Gg ss;obtain⟨cn,cp,_⟩:=v7 ss;have co:=Ei (OQ ss) (by lia);obtain⟨ρ,e,o3,o4,o5,o6,o7,rfl⟩:=cF (sg:=bL 2 (ay (ba 3) (ay (ba 4) bT)))
  (λi ρ=>∃o3 o4 o5 o6 o7,ρ=[some (DU W),some (SU ss),some (DU (bV [] (kT W ((fW ss).take i)))),o3,o4,o5,o6,o7])
  (λi u ρ hu θ=>by
   obtain⟨o3,o4,o5,o6,o7,Φ⟩:=θ;subst Φ;have hi:i<(fW ss).length:=by have:=(aap.mp hu).1;rwa [aaa] at this
   rw[aar,aad hi] at hu;obtain rfl:XD _=u:=by injection hu
   have hm:=aaU hi;have p1:=cp _ hm;have p2:=LV ss _ hm;have pl:(kT W ((fW ss).take i)).length<10000:=by
    rw[yu,aa2];have:min i (fW ss).length*W.length<=ss.length*W.length:=Nat.mul_le_mul (by lia) (aaq _);lia
   obtain⟨Ã,Ø,Ý,q⟩:=Wv hW wl hr (hs.o _ (zS hm)) hs.n8 (by lia) (by lia) pl;have ef:kT W ((fW ss).take (i+1))=kT W ((fW ss).take i)++W.map λr=>(aJ r.1 (fW ss)[i].1,r.2*(fW ss)[i].2):=by
    unfold kT;rw[aaO hi,List.flatMap_append,abR,List.flatMap_nil,abG]
   rw[ef];exact⟨_,_,B5,.inl q,_,_,_,_,_,rfl⟩)
  (ρ:=[some (DU W),some (SU ss),some (DU []),none,none,none,none,none]) ⟨_,_,_,_,_,rfl⟩
 rw[aaa,abj] at e;have e0:DU []=.dct [] []:=rfl;rw[e0] at e;unfold mE vL;simp only[Pzz,gz,co,Wo,Ga (Tp hs.l1),e]
theorem wd:∀(ws:List (List Int×Int)) (d:Dc),(bV d ws).map (·.1)=(ws.map (·.1)).foldl gg (d.map (·.1))
 | [],d=>rfl
 |w::ws,d=>by
  show (bV _ ws).map (·.1)=_;rw[wd ws,aal,afe];unfold oG;rw[pX];rfl
def Pn (d:Dc):Prop:=∀p∈d,0<=p.2
theorem Gh {d:Dc}(h:Pn d)(k:Rw):0<=kO d k:=by
 by_cases c:k∈d.map (·.1)
 ·exact h _ (yr c)
 ·rw[kP c];exact aeF _
theorem Tq {d:Dc}{k:Rw}{v:Int}(h:Pn d)(hv:0<=v):Pn (lI d k v):=by
 unfold lI;intro p hp;split at hp
 ·obtain⟨q,hq,rfl⟩:=aan.mp hp;split
  ·exact hv
  ·exact h q hq
 ·rcases aaQ.mp hp with hp|hp
  ·exact h p hp
  ·rw[aau] at hp;subst hp;exact hv
theorem yv:∀(ws:List (Rw×Int)) {d:Dc},Nd d->Pn d->(∀p∈ws,0<=p.2)->Nd (bV d ws)/\Pn (bV d ws)/\∀f,kq (bV d ws) f=kq d f+(ws.map λp=>p.2*f p.1).sum
 | [],d,n,p,_=>⟨n,p,λf=>by show kq d f=_;simp⟩
 |q::ws,d,n,p,h=>by
  have n1:Nd (oG d q.1 q.2):=LB _ _ n;have p1:Pn (oG d q.1 q.2):=Tq p (by have:=Gh p q.1;have:=h q aae;lia);obtain⟨a,b,c⟩:=yv ws n1 p1 λx hx=>h x (aai _ hx);refine⟨a,b,λf=>?_⟩;show kq (bV _ ws) f=_;rw[c f,B1 _ _ _ n,aal,aaS];lia
def j8:eZ (.lst us) [u]=if us.length<aaf then .ok (.non,.lst (us++[u])) else .stk:=nr rfl
abbrev Dl:=List (Dc×Int)
def B7 (x:Dc×Int):U:=.tup [DU x.1,.int x.2]
def kW (L:Dl):List (List Int):=L.flatMap λx=>x.1.map (·.1)
def xt (L:Dl)(k:List Int):U:=.tup [ah k,.tup (L.map λx=>jH (e_ (kO x.1 k) x.2))]
structure Ww (L:Dl):Prop where
 el:∀x∈L,x.1≠[]/\x.1.length<=2000/\Pn x.1/\0<x.2/\x.2<=10000000/\∀p∈x.1,p.1≠[]
 ln:L.length<=4
 kl:(aX (kW L)).length<64
theorem OT {W:Dc}(h:W≠[]):vH [DU W]=.ok (.lst (W.map λp=>ah p.1)):=by
 unfold vH DU;exact hZ (LL h)
theorem LW {L:Dl}(h:∀x∈L,x.1.length<=2000):(kW L).length<=2000*L.length:=by
 unfold kW
 induction L with
 |nil=>simp
 |cons x L ih=>
  have a:=h x aae;have b:=ih λy hy=>h y (aai _ hy);rw[abR,aay,aaa,aaw];lia
theorem Tr {L:Dl}(hL:Ww L){o2 o3 o4:Option U} :
  ∃ä á,dO (bL 2 (ay (ba 2) (ay (ba 3) bT))) j2 (L.map B7) [x0,some (.lst []),o2,o3,o4,o5]=.nx [x0,some (.lst ((kW L).map ah)),ä,á,o4,o5]:=by
 have sz:aaf=16777216:=rfl;have ln:=hL.ln;obtain⟨ρ,e,ä,á,rfl⟩:=cF (sg:=bL 2 (ay (ba 2) (ay (ba 3) bT))) (s:=j2)
  (λi ρ=>∃o2 o3,ρ=[x0,some (.lst ((kW (L.take i)).map ah)),o2,o3,o4,o5])
  (λi u ρ hu θ=>by
   obtain⟨o2,o3,hr⟩:=θ;subst hr;have hi:i<L.length:=by have:=(aap.mp hu).1;rwa [aaa] at this
   rw[aar,aad hi] at hu;obtain rfl:B7 L[i]=u:=by injection hu
   obtain⟨w1,w2,_⟩:=hL.el _ (aaU hi);have al:=LW (L:=L.take i) λx hx=>(hL.el x (acw hx)).2.1;rw[aa2] at al;have q:((kW (L.take i)).map ah).length+(L[i].1.map λp=>ah p.1).length<=aaf:=by rw[aaa,aaa];lia
   have ef:kW (L.take (i+1))=kW (L.take i)++L[i].1.map (·.1):=by
    unfold kW;rw[aaO hi,List.flatMap_append,abR,List.flatMap_nil,abG]
   rw[ef];refine⟨[x0,some _,some _,some _,o4,o5],[x0,some _,some (DU L[i].1),some (.int L[i].2),o4,o5],B5,.inl ?_,_,_,rfl⟩;unfold j2;simp only[Pzz,OT w1,Wj,q];simp only[aaD,aat];rfl)
  ⟨_,_,rfl⟩
 rw[aaa,abj] at e;exact⟨ä,á,e⟩
theorem Tt {L:Dl}(hL:Ww L)(ks:List (List Int))(kl:ks.length<64){o1 o2 o3:Option U} :
  ∃Ã,dO (ba 5) j3 (ks.map ah) [some (.lst (L.map B7)),o1,o2,o3,some (.lst []),o5]=.nx [some (.lst (L.map B7)),o1,o2,o3,some (.lst (ks.map (xt L))),Ã]:=by
 have sz:aaf=16777216:=rfl;have ln:=hL.ln;obtain⟨ρ,e,Ã,rfl⟩:=cF (sg:=ba 5) (s:=j3)
  (λi ρ=>∃o5,ρ=[some (.lst (L.map B7)),o1,o2,o3,some (.lst ((ks.take i).map (xt L))),o5])
  (λi u ρ hu θ=>by
   obtain⟨o5,hr⟩:=θ;subst hr;have hi:i<ks.length:=by have:=(aap.mp hu).1;rwa [aaa] at this
   rw[aar,aad hi] at hu;obtain rfl:ah ks[i]=u:=by injection hu
   have el:=bz (f:=nI [none,none,some 5] (bL 2 (ay (ba 0) (ay (ba 1) bT))) bO (eo 2 j1 (af (lA 0 (ag 2) (zqc 0)) (b1x 1))) [some (.lst (L.map B7)),o1,o2,o3,some (.lst ((ks.take i).map (xt L))),some (ah ks[i])]) (c:=B7) (g:=λx=>jH (e_ (kO x.1 ks[i]) x.2)) λx hx=>by
    obtain⟨_,_,w3,w4,w5,_⟩:=hL.el x hx;have ra:=B6 (t:=kO x.1 ks[i]) (Gh w3 _) w4 (by lia);unfold B7;simp only[Pzz,B5,zM,zN,zO,ra]
   have z1:(L.map λx=>jH (e_ (kO x.1 ks[i]) x.2)).length<=aaf:=by rw[aaa];lia
   have z2:((ks.take i).map (xt L)).length<aaf:=by grind
   rw[aaO hi];refine⟨[some _,o1,o2,o3,some _,some _],[some _,o1,o2,o3,some _,some (ah ks[i])],rfl,.inl ?_,_,rfl⟩;unfold j3;simp only[Pzz,Nat.reduceAdd,el,j8,z2];simp only[aaD];rfl)
  ⟨_,rfl⟩
 rw[aaa,abj] at e;exact⟨Ã,e⟩
theorem Gi {L:Dl}(hL:Ww L):gm [.lst (L.map B7)]=.ok (.tup ((fX (aX (kW L))).map (xt L))):=by
 have ss:kH [.lst ((kW L).map ah)]=.ok (.lst ((fX (aX (kW L))).map ah)):=by
  unfold kH;dsimp only;rw[p7 λk hk=>by
   obtain⟨x,hx,hk⟩:=abz.mp hk;obtain⟨p,hp,rfl⟩:=aan.mp hk;exact (hL.el x hx).2.2.2.2.2 p hp]
  dsimp only;rw[hZ hL.kl]
 have kl:(fX (aX (kW L))).length<64:=by rw[(aH _).length_eq];exact hL.kl
 obtain⟨o2,o3,e1⟩:=Tr hL (x0:=some (.lst (L.map B7))) (o2:=none) (o3:=none) (o4:=none) (o5:=none);obtain⟨o5,e2⟩:=Tt hL _ kl (o1:=some (.lst ((kW L).map ah))) (o2:=o2) (o3:=o3) (o5:=none);have sz:((fX (aX (kW L))).map (xt L)).length<=aaf:=by
  have:aaf=16777216:=rfl;rw[aaa];lia
 unfold gm oB;simp only[Pzz,gz,e1,B4,ss,e2,zP]
theorem Q2 {D:Int}{m:Fs}(hm:p9 n nd D m):c6 [dQ nd D m]=.ok (.lst (bu 0 nd)):=by
 have n2:=hm.n2;obtain⟨p,m',em⟩:∃p m',m=p::m':=by
  cases hq:m with
  |nil=>exact absurd hq hm.ne
  |cons p m'=>exact⟨p,m',rfl⟩
 have h1:dq (dQ nd D m) (.int 0)=.ok (pU nd D p):=by
  rw[em];unfold dQ;rw[uX,show (0:Int)=((0:Nat):Int) from rfl,j0];rfl
 have h2:dq (pU nd D p) (.int 1)=.ok (wU nd D p.2):=by rfl
 have h3:gy [wU nd D p.2]=.ok (.int (nd:Nat)):=by unfold wU;rw[mj,aaa,aaJ]
 unfold c6 jy;simp only[Pzz,gz,h1,h2,h3,y9 nd (by lia)]
def ind (k x:List Int):Int:=if x=k then 1 else 0
theorem p_ {α β:Type}(f:α->β->Int):∀(l:List α) (m:List β),(l.map λa=>(m.map λb=>f a b).sum).sum=(m.map λb=>(l.map λa=>f a b).sum).sum
 | [],m=>by
  induction m with
  |nil=>rfl
  |cons b m ih=>rw[aal,aaS,←ih];rfl
 |a::l,m=>by
  rw[aal,aaS,p_ f l m]
  induction m with
  |nil=>rfl
  |cons b m ih=>
   rw[aal,aal,aal,aaS,aaS,aaS,aal,aaS];rw[←ih];lia
def G1 (m:Fs)(ss:List (List Int))(d:Nat):Dc:=bV [] (kT (rn d m) (fW ss))
def YJ (m:Fs)(ss:List (List Int))(d:Nat):Dc×Int:=(G1 m ss d,1*(ss.length:Nat))
def Ia (nd:Nat)(m:Fs)(ss:List (List Int)):Dl:=(aax nd).map (YJ m ss)
section
variable {m:Fs}
theorem OU (hm:p9 n nd 1 m)(hs:Sf n ss)(d:Nat):∀p∈kT (rn d m) (fW ss),0<=p.2/\p.1.length=n:=λp hp=>by
 obtain⟨o,ho,hp⟩:=abz.mp hp;obtain⟨r,hr,rfl⟩:=aan.mp hp;obtain⟨q,hq,rfl⟩:=aan.mp hr;have o1:=(v7 ss).2.1 o ho;refine⟨adU ((hm.el q hq).2 d) (by lia),?_⟩;unfold aJ;rw[aaa];exact bR (hs.o _ (zS ho))
theorem Q3 (hm:p9 n nd 1 m)(hs:Sf n ss)(d:Nat):Nd (G1 m ss d)/\Pn (G1 m ss d)/\∀f,kq (G1 m ss d) f=((kT (rn d m) (fW ss)).map λp=>p.2*f p.1).sum:=by
 obtain⟨a,b,c⟩:=yv _ Ef.1 (λp hp=>by cases hp) λp hp=>(OU hm hs d p hp).1;refine⟨a,b,λf=>?_⟩;show kq (bV [] _) f=_;rw[c f];show (0:Int)+_=_;rw[afB]
theorem Tu (hm:p9 n nd 1 m)(hs:Sf n ss)(d:Nat)(k:List Int):kO (G1 m ss d) k=(m.map λp=>(ss.map λo=>p.2 d*ind k (aJ p.1 o)).sum).sum:=by
 obtain⟨gn,gp,gs⟩:=Q3 hm hs d;rw[←LC gn k,gs];unfold kT;rw[pY];have e1:((fW ss).map λo=>(((rn d m).map λr=>(aJ r.1 o.1,r.2*o.2)).map λp=>p.2*(if p.1=k then 1 else 0)).sum)=(fW ss).map λo=>o.2*((rn d m).map λr=>r.2*ind k (aJ r.1 o.1)).sum:=by
  apply aav;intro o _;rw[aat,←F6,aat];congr 1;apply aav;intro r _;show r.2*o.2*(if aJ r.1 o.1=k then 1 else 0)=o.2*(r.2*ind k _);unfold ind;rw[ad8 r.2 o.2,abS]
 have e2:((fW ss).map _).sum=(ss.map _).sum:=(v7 ss).2.2 λ(o:List Int)=>((rn d m).map λ(r:List Int×Int)=>r.2*ind k (aJ r.1 o)).sum;rw[e1,e2,p_ _ ss (rn d m)];unfold rn;rw[aat];rfl
theorem Ib (d:Nat)(k:List Int):xr (ff m ss) k d=(m.map λp=>(ss.map λo=>p.2 d*ind k (aJ p.1 o)).sum).sum:=by
 unfold xr ff;rw[pY];congr 1;apply aav;intro p _;rw[aat];congr 1;apply aav;intro o _;show (if aJ p.1 o=k then p.2 d else 0)=p.2 d*ind k _;unfold ind;split
 ·rw[Int.mul_one]
 ·rw[Int.mul_zero]
theorem zT (d:Nat)(k:List Int):k∈(G1 m ss d).map (·.1)↔k∈ij (ff m ss):=by
 have ck:∀o,o∈ss->∃p∈fW ss,p.1=o:=λo ho=>by
  have:o∈(fW ss).map (·.1):=by
   unfold fW;rw[wd];refine (cG _ _ _).mpr (.inr ?_);rw[aat];exact aan.mpr ⟨o,ho,rfl⟩
  obtain⟨p,hp,e⟩:=aan.mp this;exact⟨p,hp,e⟩
 unfold G1;rw[wd,cG,fQ];constructor
 ·rintro (z|z)
  ·cases z
  ·obtain⟨x,hx,rfl⟩:=aan.mp z;obtain⟨o,ho,hx⟩:=abz.mp hx;obtain⟨r,hr,rfl⟩:=aan.mp hx;obtain⟨p,hp,rfl⟩:=aan.mp hr;exact aan.mpr ⟨(aJ p.1 o.1,p.2),abz.mpr ⟨p,hp,aan.mpr ⟨o.1,zS ho,rfl⟩⟩,rfl⟩
 ·intro z;obtain⟨x,hx,rfl⟩:=aan.mp z;obtain⟨p,hp,hx⟩:=abz.mp hx;obtain⟨o,ho,rfl⟩:=aan.mp hx;obtain⟨q,hq,rfl⟩:=ck o ho;refine .inr (aan.mpr ⟨(aJ p.1 q.1,p.2 d*q.2),?_,rfl⟩);refine abz.mpr ⟨q,hq,aan.mpr ⟨(p.1,p.2 d),?_,rfl⟩⟩;exact aan.mpr ⟨p,hp,rfl⟩
theorem LX (hm:p9 n nd 1 m):(aX (kW (Ia nd m ss))).Perm (ij (ff m ss)):=by
 refine (afn (lK _ _ ab1) (j7 _)).mpr λk=>?_;rw[cG];constructor
 ·rintro (z|z)
  ·cases z
  ·obtain⟨x,hx,hk⟩:=abz.mp z;obtain⟨d,_,rfl⟩:=aan.mp hx;exact (zT d k).mp hk
 ·intro z;exact .inr (abz.mpr ⟨YJ m ss 0,aan.mpr ⟨0,aaH.mpr hm.n1,rfl⟩,(zT 0 k).mpr z⟩)
theorem YK (hm:p9 n nd 1 m)(hs:Sf n ss)(hl:ss.length*m.length<=60):Ww (Ia nd m ss):=by
 have l1:=hs.l1;have l2:=hs.l2;have n2:=hm.n2;refine⟨λx hx=>?_,by unfold Ia;rw[aaa,aaJ];exact n2,?_⟩
 ·obtain⟨d,_,rfl⟩:=aan.mp hx;obtain⟨_,gp,_⟩:=Q3 hm hs d;have D1:0<(1:Int)*(ss.length:Nat):=afj (by lia) (by (simp;lia));have kk:=λk=>zT (m:=m) (ss:=ss) d k;refine⟨λe=>?_,?_,gp,D1,(by show (1:Int)*(ss.length:Nat)<=_;lia),λp hp e=>?_⟩
  ·obtain⟨x,F',ef⟩:∃x F',ff m ss=x::F':=by
    cases hq:ff m ss with
    |nil=>exact absurd hq (Gf hm hs)
    |cons x F'=>exact⟨x,F',rfl⟩
   have:=(kk x.1).mpr (fQ.mpr (by rw[ef];exact aae));have e':G1 m ss d=[]:=e;rw[e'] at this;cases this
  ·show (G1 m ss d).length<=2000;have h1:=lJ (kT (rn d m) (fW ss));rw[yu] at h1;have h2:(fW ss).length*(rn d m).length<=ss.length*m.length:=Nat.mul_le_mul (Gg ss) (by unfold rn;rw[aaa];exact aaq _);unfold G1;lia
  ·have:=(kk p.1).mp (abi hp);obtain⟨x,hx,ex⟩:=aan.mp (fQ.mp this);have:=(uk hm hs x hx).1;rw[ex,e] at this;have:=hs.n1;simp at *;lia
 ·rw[(LX hm).length_eq];have:=m9 (ff m ss);rw[wc,abN] at this;lia
theorem LY (hm:p9 n nd 1 m)(hs:Sf n ss)(hl:ss.length*m.length<=60):∃o3 o4,dO (ba 3) gL (bu 0 nd) [some (dQ nd 1 m),some (SU ss),some (.lst []),none,none]=.nx [some (dQ nd 1 m),some (SU ss),some (.lst ((Ia nd m ss).map B7)),o3,o4]:=by
 have sz:aaf=16777216:=rfl;have n2:=hm.n2;have l2:=hs.l2;have lS:gy [SU ss]=.ok (.int (ss.length:Nat)):=by unfold SU;rw[mj,aaa]
 obtain⟨ρ,e,o3,o4,rfl⟩:=cF (sg:=ba 3) (s:=gL)
  (λi ρ=>∃o3 o4,ρ=[some (dQ nd 1 m),some (SU ss),some (.lst ((Ia i m ss).map B7)),o3,o4])
  (λi u ρ hu θ=>by
   obtain⟨o3,o4,hr⟩:=θ;subst hr;have hi:i<nd:=by
    rcases acz i nd with y|y
    ·exact y
    ·rw[aa9.mpr (by rw[bP];exact y)] at hu;cases hu
   obtain rfl:u=.int (i:Nat):=by
    rw[gJ] at hu;unfold aQ at hu;rw[aat,aar,abh hi] at hu;cases hu;rfl
   have ww:=Wu hm hi;have wl:(rn i m).length=m.length:=by unfold rn;rw[aaa]
   have sp:=H_ (W:=rn i m) (λe=>hm.ne (by exact List.map_eq_nil_iff.mp e)) (by have:=hm.ln;lia) (λr hr=>by
    obtain⟨p,hp,rfl⟩:=aan.mp hr;exact (hm.el p hp).1) hs (by rw[wl];lia)
   have cm:lq (1:Int) ((ss.length:Nat):Int)=true:=mm (by lia) (by lia);have z:((Ia i m ss).map B7).length<aaf:=by unfold Ia;rw[aaa,aaa,aaJ];lia
   have ef:Ia (i+1) m ss=Ia i m ss++[YJ m ss i]:=by unfold Ia;rw[List.range_succ,aaD];rfl
   rw[ef];have h0:dq (.tup [DU (rn i m),.int 1]) (.int 0)=.ok (DU (rn i m)):=by rfl
   have h1:dq (.tup [DU (rn i m),.int 1]) (.int 1)=.ok (.int 1):=by rfl
   refine⟨[some _,some (SU ss),some _,some _,o4],[some _,some (SU ss),some _,some (.int (i:Nat)),some (.tup [DU (rn i m),.int 1])],rfl,.inl ?_,_,_,rfl⟩;unfold gL;simp only[Pzz,Nat.reduceAdd,ww,sp,lS,cm,j8,z];simp only[aaD];rfl)
  ⟨_,_,rfl⟩
 rw[bP] at e;exact⟨o3,o4,e⟩
theorem LZ (hm:p9 n nd 1 m)(hs:Sf n ss)(hl:ss.length*m.length<=60):cA [dQ nd 1 m,SU ss]=.ok (dQ nd (1*(ss.length:Nat)) (iQ (ff m ss))):=by
 obtain⟨o3,o4,e⟩:=LY hm hs hl;have so:=Gi (YK hm hs hl);have dn:=Q2 hm;have fin:U.tup ((fX (aX (kW (Ia nd m ss)))).map (xt (Ia nd m ss)))=dQ nd (1*(ss.length:Nat)) (iQ (ff m ss)):=by
  unfold dQ iQ;rw[xq (LX hm),aat];congr 1;apply aav;intro k _;unfold xt pU wU Ia;rw[aat];congr 4;apply aav;intro d _;show jH (e_ (kO (G1 m ss d) k) ((1:Int)*(ss.length:Nat)))=_;rw[Tu hm hs,←Ib]
 rw[fin] at so;unfold cA kn;simp only[Pzz,gz,dn,e,B4,so,zP]
theorem Tv (hm:p9 n nd 1 m)(hs:Sf n ss)(hl:ss.length*m.length<=60)(hD:(1:Int)*(ss.length:Nat)<=400000):p9 n nd (1*(ss.length:Nat)) (iQ (ff m ss)):=by
 have ks:(iQ (ff m ss)).map (·.1)=fX (ij (ff m ss)):=by unfold iQ;rw[aat];exact List.map_id' _
 have kl:=m9 (ff m ss);rw[wc,abN] at kl;refine⟨λe=>?_,by rw[ks];exact (aH _).symm.nodup (j7 _),λp hp=>?_,?_,afj hm.d0 (by have:=hs.l1;lia),hD,hm.n1,hm.n2⟩
 ·rw[e] at ks;have h1:=(aH (ij (ff m ss)));rw[←ks] at h1;have h2:=List.nil_perm.mp h1;obtain⟨x,F',ef⟩:∃x F',ff m ss=x::F':=by
   cases hq:ff m ss with
   |nil=>exact absurd hq (Gf hm hs)
   |cons x F'=>lia
  have:x.1∈ij (ff m ss):=fQ.mpr (by rw[ef];exact aae);grind
 ·obtain⟨k,hk,rfl⟩:=aan.mp hp;obtain⟨x,hx,rfl⟩:=aan.mp (fQ.mp ((aH _).mem_iff.mp hk));exact⟨(uk hm hs x hx).1,Ge (λx hx=>(uk hm hs x hx).2) _⟩
 ·unfold iQ;rw[aaa,(aH _).length_eq];lia
end
def un (k j:Nat):Int:=if j=k then 1 else 0
def F0 (γ:List (List Int)):Fs:=(aax γ.length).map λk=>(γ.getD k [],un k)
theorem B8 {α β:Type}(f:α->β)(z:α)(l:List α):l.map f=(aax l.length).map λd=>f (l.getD d z):=by
 apply adZ
 ·rw[aaa,aaa,aaJ]
 ·intro i h1 h2;rw[aaa] at h1;rw[acK,acK,adj,aag,aad h1];rfl
theorem El (γ:List (List Int)):(F0 γ).map (·.1)=γ:=by
 unfold F0;rw[aat];have:=B8 (λx:List Int=>x) [] γ;rw[List.map_id'] at this;exact this.symm
theorem L7 (γ:List (List Int)):(F0 γ).length=γ.length:=by unfold F0;rw[aaa,aaJ]
theorem Q4 (γ:List (List Int)):∀x∈F0 γ,∀d,0<=x.2 d:=λx hx d=>by
 obtain⟨k,_,rfl⟩:=aan.mp hx;show 0<=un k d;unfold un;split<;>decide
theorem Tw {x:List Int×(Nat->Int)}(hx:x∈F0 γ):x.1∈γ:=by
 have:=abi (f:=λy:List Int×(Nat->Int)=>y.1) hx
 rwa [El] at this
theorem zU (g:Nat->Int)(d:Nat):∀N:Nat,((aax N).map λi=>if d=i then g i else 0).sum=if d<N then g d else 0
 |0=>by rfl
 |N+1=>by
  rw[List.range_succ,aaD,afi,zU g d N,aal,ad7,aaS,List.sum_nil,Int.add_zero];by_cases c:d=N
  ·subst c;rw[hV (by lia),hZ rfl,hZ (by lia),afB]
  ·rw[hV c,Int.add_zero];by_cases c2:d<N
   ·rw[hZ c2,hZ (by lia)]
   ·rw[hV c2,hV (by (simp at *;lia))]
theorem OV {k:List Int}(hd:d<γ.length):xr (F0 γ) k d=if γ.getD d []=k then 1 else 0:=by
 unfold xr F0;rw[aat];have e:(aax γ.length).map ((λx:List Int×(Nat->Int)=>if x.1=k then x.2 d else 0)∘λi=>(γ.getD i [],un i))=(aax γ.length).map λi=>if d=i then (if γ.getD i []=k then (1:Int) else 0) else 0:=by
  apply aav;intro i _;show (if γ.getD i []=k then un i d else 0)=_;unfold un;lia
 rw[e,zU _ d,hZ hd]
structure Em (n:Nat)(γ:List (List Int)):Prop where
 n1:1<=n
 n8:n<=8
 l:∀r∈γ,r.length=n
 l1:1<=γ.length
 l2:γ.length<=4
theorem YL (h:Em n γ):∀r∈γ,r≠[]:=λr hr e=>by
 have:=h.l r hr;rw[e] at this;have:=h.n1;simp at *;lia
def L0 (γ:List (List Int)):Dl:=γ.map λr=>([(r,1)],1)
theorem zV:∀γ:List (List Int),kW (L0 γ)=γ
 | []=>rfl
 |r::γ=>by
  have:=zV γ;unfold kW L0 at this ⊢;rw[aal,abR,this];rfl
theorem L8 (r k:List Int):kO [(r,1)] k=if r=k then 1 else 0:=by
 rw[jn];rfl
theorem YM {i:Int}{ks:List Int}(h:ρ[j]? = some (some (ah ks))):UC j i ρ=.ok (.dct [ah ks] [.int i],ρ):=by
 unfold UC;rw[h];unfold ah;exact hZ (kQ ks)
theorem Wx (h:Em n γ):Ww (L0 γ):=by
 have l2:=h.l2;refine⟨λx hx=>?_,by unfold L0;rw[aaa];exact l2,?_⟩
 ·obtain⟨r,hr,rfl⟩:=aan.mp hx;refine⟨List.cons_ne_nil _ _,by simp,λp hp=>?_,(show (0:Int)<1 by decide),(show (1:Int)<=10000000 by decide),λp hp=>?_⟩
  ·rw[aau.mp hp];exact (show (0:Int)<=1 by decide)
  ·rw[aau.mp hp];exact YL h r hr
 ·rw[zV];have:=kS γ [];unfold aX;simp at this ⊢;lia
theorem Tx (h:Em n γ)(hu:∀ρ,jc u ρ=.ok (γ.map ah,ρ)):pS [u]=.ok (dQ γ.length 1 (iQ (F0 γ))):=by
 have l2:=h.l2;have so:=Gi (Wx h);have el:=bz (f:=nI [none] (ba 0) bO (bQ (af (UC 0 1) (af (zqc 1) aq))) [some u]) (c:=ah) (g:=λr=>B7 ([(r,1)],1)) (xs:=γ) λr _=>by
  have d:=YM (j:=0) (i:=1) (ρ:=[some (ah r)]) rfl;simp only[Pzz,d];rfl
 have sz:(γ.map λr=>B7 ([(r,1)],1)).length<=aaf:=by
  have:aaf=16777216:=rfl;rw[aaa];lia
 have e0:(L0 γ).map B7=γ.map λr=>B7 ([(r,1)],1):=by unfold L0;rw[aat];rfl
 rw[e0] at so;have fin:U.tup ((fX (aX (kW (L0 γ)))).map (xt (L0 γ)))=dQ γ.length 1 (iQ (F0 γ)):=by
  unfold dQ iQ ij;rw[zV,El,aat];congr 1;apply aav;intro k _;unfold xt pU wU L0;rw[aat,B8 _ [] γ];congr 4;apply aav;intro d hd;show jH _=jH (e_ (xr (F0 γ) k d) 1);rw[OV (aaH.mp hd),L8]
 rw[fin] at so;unfold pS zB;simp only[Pzz,gz,Nat.reduceAdd,Nat.reduceSub,hu,el,so]
theorem OW (h:Em n γ):p9 n γ.length 1 (iQ (F0 γ)):=by
 have l1:=h.l1;have l2:=h.l2;have ks:(iQ (F0 γ)).map (·.1)=fX (ij (F0 γ)):=by unfold iQ;rw[aat];exact List.map_id' _
 have kl:=m9 (F0 γ);rw[L7] at kl;refine⟨λe=>?_,by rw[ks];exact (aH _).symm.nodup (j7 _),λp hp=>?_,?_,by decide,by decide,l1,l2⟩
 ·rw[e] at ks;have h1:=(aH (ij (F0 γ)));rw[←ks] at h1;have h2:=List.nil_perm.mp h1;have:γ[0]∈ij (F0 γ):=fQ.mpr (by rw[El];exact aaU _);rw[h2] at this;cases this
 ·obtain⟨k,hk,rfl⟩:=aan.mp hp;obtain⟨x,hx,rfl⟩:=aan.mp (fQ.mp ((aH _).mem_iff.mp hk));exact⟨h.l x.1 (Tw hx),Ge (Q4 γ) _⟩
 ·unfold iQ;rw[aaa,(aH _).length_eq];lia
theorem kX {α:Type}{f:α->U}{g:α->D}(h:∀x,l9 (f x)=some (g x)):∀l:List α,ke (l.map f)=some (l.map g)
 | []=>by rfl
 |x::l=>by rw[aal];unfold ke;rw[h x,kX h l];rfl
theorem we {α:Type}{g:α->D}{c:Nat}(h:∀x,fj (g x)<=c):∀l:List α,lP (l.map g)<=c
 | []=>by exact abU _
 |x::l=>by
  rw[aal];unfold lP;have:=h x;have:=we h l;lia
theorem yw {α:Type}{f:U->R (Option U)}{c:α->U}{p:α->Bool}:∀{xs:List α},(∀x∈xs,f (c x)=.ok (if p x=true then some (c x) else none))->G_ f (xs.map c)=.ok ((xs.filter p).map c)
 | [],_=>rfl
 |x::xs,h=>by
  rw[aal];unfold G_;rw[h x aae];rw[yw λy hy=>h y (aai _ hy)];rw[ad0];cases p x<;>rfl
theorem L9 {s:Ev->SR}(I:Nat->Ev->Prop)(step:∀(j:Nat) (u:U) (ρ:Ev),us[j]? = some u->I j ρ->∃η ν,sg u (ρ.set i none)=.ok η/\s (η.set i (ρ[i]?.getD none))=.nx ν/\I (j+1) ν)(h:I 0 ρ) :
  ∃ε,DV i sg s us ρ=.nx ε/\I us.length ε:=by
 have gen:∀(n j:Nat) (ρ:Ev),j+n=us.length->I j ρ->∃ε,DV i sg s (us.drop j) ρ=.nx ε/\I us.length ε:=by
  intro n
  induction n with
  |zero=>
   intro j ρ hj h;have:j=us.length:=by lia
   subst this;rw[ac8];exact⟨ρ,rfl,h⟩
  |succ n ih=>
   intro j ρ hj h;have xv:j<us.length:=by lia
   obtain⟨η,ν,a,b,c⟩:=step j us[j] ρ (aad xv) h;obtain⟨ε,d,e⟩:=ih (j+1) ν (by lia) c;refine⟨ε,?_,e⟩;rw[abv xv];unfold DV;rw[a];show (match s _ with|.nx ν=>_|.ct ν=>_|.bk ν=>_|r=>_)=_;rw[b];exact d
 have:=gen us.length 0 ρ (by lia) h
 rwa [aeH] at this
structure UD (n:Nat)(ps:List Int):Prop where
 ne:ps≠[]
 mem:∀i∈ps,0<=i/\i<n
 ln:ps.length<=8
def lL (ps:List Int)(p:List Int×(Nat->Int)):List Int:=aJ p.1 ps
def wQ (ps k:List Int)(p:List Int×(Nat->Int)):Bool:=decide (lL ps p=k)
def Lk (m:Fs)(ps:List Int):List (List Int×Fs):=(fX (aX (m.map (lL ps)))).map λk=>(k,m.filter (wQ ps k))
def UE (nd:Nat)(D:Int)(x:List Int×Fs):U:=.tup [ah x.1,dQ nd D x.2]
def wg (nd:Nat)(D:Int)(L:List (List Int×Fs)):U:=.lst (L.map (UE nd D))
section
variable {D:Int}{m:Fs}{ps:List Int}
theorem L_ (hm:p9 n nd D m)(hp:UD n ps){p:List Int×(Nat->Int)}(h:p∈m):cv [ah p.1,ah ps]=.ok (ah (lL ps p)):=v9 (λi hi=>by rw[(hm.el p h).1];exact hp.mem i hi) (by have:=hp.ln;lia)
theorem Wy (hp:UD n ps)(p:List Int×(Nat->Int)):lL ps p≠[]:=λe=>by
 have:(lL ps p).length=ps.length:=by unfold lL aJ;rw[aaa]
 rw[e] at this;exact hp.ne (List.length_eq_zero_iff.mp this.symm)
theorem wj (hm:p9 n nd D m):(aX (m.map (lL ps))).length<=60:=by
 have:=kS (m.map (lL ps)) [];have h2:=hm.ln;unfold aX;simp at this;lia
def ix0 (p:List Int×(Nat->Int)):dq (pU nd D p) (.int 0)=.ok (ah p.1):=by rfl
end
section
variable {D:Int}{m:Fs}{ps:List Int}
def DF (ks:List (List Int))(f:List Int->U):U:=.dct (ks.map ah) (ks.map f)
def vP (nd:Nat)(D:Int)(ps:List Int)(m:Fs)(k:List Int):U:=.lst ((m.filter (wQ ps k)).map (pU nd D))
def PT (nd:Nat)(D:Int)(ps:List Int)(m:Fs):U:=DF (aX (m.map (lL ps))) (vP nd D ps m)
theorem Ma {ks:List (List Int)}{k:List Int}:k∈gg ks k:=by
 unfold gg;split
 ·assumption
 ·exact aaM _ aae
def B9 {ks:List (List Int)}{k:List Int}(h:k∈ks):gg ks k=ks:=hZ h
theorem Tz {k:List Int}(h:k∉aX (m.map (lL ps))):vP nd D ps m k=.lst []:=by
 have e:m.filter (wQ ps k)=[]:=List.filter_eq_nil_iff.mpr λp hp e=>h ((cG _ _ _).mpr (.inr (aan.mpr ⟨p,hp,of_decide_eq_true e⟩)));unfold vP;rw[e];rfl
theorem TB {k:List Int}(hl:(aX (m.map (lL ps))).length<100000) :
  Lb 2 (ag 5) (yo 2 0 (ag 5)) bU [x0,x1,some (PT nd D ps m),x3,x4,some (ah k)]=.nx [x0,x1,some (DF (gg (aX (m.map (lL ps))) k) (vP nd D ps m)),x3,x4,some (ah k)]:=by
 have sz:aaf=16777216:=rfl;have g5:ag 5 ([x0,x1,some (PT nd D ps m),x3,x4,some (ah k)].set 2 none)=.ok _:=rfl;unfold Lb;show (if qD (ah k)=true then (if (fJ _ _ (ah k)).isSome=true then bU _ else yo 2 0 (ag 5) _) else _)=_;rw[hZ (kQ k),wa];by_cases c:k∈aX (m.map (lL ps))
 ·rw[hZ c,B9 c];rfl
 ·rw[hV c];unfold yo;show (if qD (ah k)=true/\((aX _).map _).length<aaf then (match fJ _ _ (ah k) with|none=>_|some _=>_) else _)=_;rw[hZ ⟨kQ k,by rw[aaa];lia⟩,wa,hV c];show SR.nx [x0,x1,some _,x3,x4,some (ah k)]=_;rw[Gb,Gd];congr 6;refine aav λx hx=>?_;by_cases e:x=k
  ·rw[hZ e,e,Tz c];rfl
  ·rw[hV e]
theorem TC {k:List Int}{p:List Int×(Nat->Int)}(hk:lL ps p=k)(hl:m.length<100000) :
  K8 2 (DY 2 (vG 2) (ag 5)) (bQ (yqa 3 4)) [x0,x1,some (DF (gg (aX (m.map (lL ps))) k) (vP nd D ps m)),some (ah p.1),some (wU nd D p.2),some (ah k)]=.nx [x0,x1,some (PT nd D ps (m++[p])),some (ah p.1),some (wU nd D p.2),some (ah k)]:=by
 have sz:aaf=16777216:=rfl;have fl:=aeT (wQ ps k) m;have r2:DY 2 (vG 2) (ag 5) [x0,x1,some (DF (gg (aX (m.map (lL ps))) k) (vP nd D ps m)),some (ah p.1),some (wU nd D p.2),some (ah k)]=.ok (vP nd D ps m k,λw=>.dct (er ((gg (aX (m.map (lL ps))) k).map ah) (ah k)) (dP ((gg (aX (m.map (lL ps))) k).map ah) ((gg (aX (m.map (lL ps))) k).map (vP nd D ps m)) (ah k) w)):=by
  unfold DY;have a1:vG 2 [x0,x1,some (DF (gg (aX (m.map (lL ps))) k) (vP nd D ps m)),some (ah p.1),some (wU nd D p.2),some (ah k)]=.ok _:=rfl;have g5:ag 5 ([x0,x1,some (DF (gg (aX (m.map (lL ps))) k) (vP nd D ps m)),some (ah p.1),some (wU nd D p.2),some (ah k)].set 2 none)=.ok _:=rfl;simp_all[L2.R.bind,DF,hZ,kQ,wa,Ma]
 unfold K8;rw[r2];have gv:bQ (yqa 3 4) ([x0,x1,some (DF (gg (aX (m.map (lL ps))) k) (vP nd D ps m)),some (ah p.1),some (wU nd D p.2),some (ah k)].set 2 none)=.ok (pU nd D p,[x0,x1,none,some (ah p.1),some (wU nd D p.2),some (ah k)]):=by
  rfl
 rw[gv];dsimp only[L2.SR.of];unfold vP;dsimp only;rw[hZ (by rw[aaa];lia)];show SR.nx [x0,x1,some _,some _,some _,some (ah k)]=_;rw[Gb,Gd,B9 Ma];have ek:aX ((m++[p]).map (lL ps))=gg (aX (m.map (lL ps))) k:=by
  grind[aX,aaD,afR,aal,hk]
 unfold PT DF;rw[ek];congr 6;refine aav λx hx=>?_;unfold vP;rw[List.filter_append,aaD];by_cases e:x=k
 ·subst e;rw[hZ rfl,List.filter_cons_of_pos (by exact hG hk)];rfl
 ·rw[hV e,List.filter_cons_of_neg (by unfold wQ;lia),List.filter_nil,ad7,abG]
def Wz:Ev->SR:=(aD (BG 2 (ba 5) (eo 2 cv (yqa 3 1))) (aD (Lb 2 (ag 5) (yo 2 0 (ag 5)) bU) (K8 2 (DY 2 (vG 2) (ag 5)) (bQ (yqa 3 4)))))
theorem Ic {M:Fs}(hm:p9 n nd D M)(hp:UD n ps){p:List Int×(Nat->Int)}(h:p∈M)(hl:m.length<10000) :
  Wz [x0,some (ah ps),some (PT nd D ps m),some (ah p.1),some (wU nd D p.2),o5]=.nx [x0,some (ah ps),some (PT nd D ps (m++[p])),some (ah p.1),some (wU nd D p.2),some (ah (lL ps p))]:=by
 have ca:=L_ hm hp h;have kl:(aX (m.map (lL ps))).length<100000:=by
  have:=kS (m.map (lL ps)) [];unfold aX;simp at this;lia
 have a1:BG 2 (ba 5) (eo 2 cv (yqa 3 1)) [x0,some (ah ps),some (PT nd D ps m),some (ah p.1),some (wU nd D p.2),o5]=.nx [x0,some (ah ps),some (PT nd D ps m),some (ah p.1),some (wU nd D p.2),some (ah (lL ps p))]:=by
  have g:eo 2 cv (yqa 3 1) ([x0,some (ah ps),some (PT nd D ps m),some (ah p.1),some (wU nd D p.2),o5].set 2 none)=.ok (ah (lL ps p),[x0,some (ah ps),none,some (ah p.1),some (wU nd D p.2),o5]):=by
   simp only[Pzz,ca]
  unfold BG;rw[g];rfl
 unfold Wz;simp only[ax,a1,TB kl,TC (m:=m) rfl (by lia)]
def WA:jz=aD (bg 2 PZ) (aD (BD 2 (yn 2 (cP (ag 0)) (bL 2 (ay (ba 3) (ay (ba 4) bT))) Wz)) (vt 2 (bx (eU (cP (fi vC (b1x 2))) [none,some 2] (ba 0) bO (bQ (af (ag 0) (af (fi bJ (af (aR Ba (ag 1) (ag 0)) aq)) aq))))))):=rfl
theorem zW (hm:p9 n nd D m)(hp:UD n ps):cB [dQ nd D m,ah ps]=.ok (wg nd D (Lk m ps)):=by
 have sz:aaf=16777216:=rfl;have ln:=hm.ln;have kl:=wj (ps:=ps) hm;obtain⟨ρ,e,o3,o4,o5,rfl⟩:=L9 (i:=2) (sg:=bL 2 (ay (ba 3) (ay (ba 4) bT))) (λj ρ=>∃o3 o4 o5,ρ=[some (dQ nd D m),some (ah ps),some (PT nd D ps (m.take j)),o3,o4,o5])
  (λj u ρ hu θ=>by
   obtain⟨o3,o4,o5,hr⟩:=θ;subst hr;have hj:j<m.length:=by have:=(aap.mp hu).1;rwa [aaa] at this
   rw[aar,aad hj] at hu;obtain rfl:pU nd D m[j]=u:=by injection hu
   have q:=Ic hm hp (aaU hj) (m:=m.take j) (by rw[aa2];lia) (x0:=some (dQ nd D m)) (o5:=o5);refine⟨[some _,some (ah ps),none,some _,some _,o5],[some _,some (ah ps),some _,some (ah m[j].1),some (wU nd D m[j].2),some (ah (lL ps m[j]))],B5,?_,_,_,_,rfl⟩;rw[aaO hj];exact q)
  ⟨_,_,_,rfl⟩
 rw[aaa,abj] at e;have e':yn 2 (cP (ag 0)) _ Wz [some (dQ nd D m),some (ah ps),some (.dct [] []),none,none,none]=.nx _:=e;have dp:BD 2 (yn 2 (cP (ag 0)) (bL 2 (ay (ba 3) (ay (ba 4) bT))) Wz) [some (dQ nd D m),some (ah ps),some (.dct [] []),none,none,none]=.nx [some (dQ nd D m),some (ah ps),some (PT nd D ps m),o3,o4,o5]:=by
  show (match yn _ _ _ _ _ with|.nx ε=>_|.bk ε=>_|.ct ε=>_|_=>_)=_;rw[e']
 have kne:aX _≠[]:=λz=>by
  cases hq:m with
  |nil=>exact hm.ne hq
  |cons p m'=>
   have:lL ps p∈aX (m.map (lL ps)):=(cG _ _ _).mpr (.inr (by rw[hq];exact aae));rw[z] at this;cases this
 have so:vC [PT nd D ps m]=.ok _:=Tn kne (by lia) λk hk=>by
  rcases (cG _ _ _).mp hk with z|z
  ·cases z
  ·obtain⟨p,_,rfl⟩:=aan.mp z;exact Wy hp p
 have el:=bz (f:=nI [none,some 2] (ba 0) bO (bQ (af (ag 0) (af (fi bJ (af (aR Ba (ag 1) (ag 0)) aq)) aq))) [some (dQ nd D m),some (ah ps),some (PT nd D ps m),o3,o4,o5]) (c:=ah) (xs:=fX _) λk hk=>by
  have UJ:=(aH _).mem_iff.mp hk;have dx:Ba (PT nd D ps m) (ah k)=.ok (vP nd D ps m k):=by
   unfold PT DF Ba;dsimp only;rw[hZ (by
    unfold pj;rw[kQ,Bool.true_and];have:((aX (m.map (lL ps))).map ah).all JE=true:=aaK.mpr λu hu=>by
     obtain⟨k,_,rfl⟩:=aan.mp hu;rfl
    lia),wa,hZ UJ]
  simp only[Pzz,dx];rfl
 have z1:((fX (aX (m.map (lL ps)))).map λk=>UE nd D (k,m.filter (wQ ps k))).length<=aaf:=by rw[aaa,(aH _).length_eq];lia
 unfold cB;rw[WA];simp only[Pzz,gz,B4,dp,so,el,z1];unfold wg Lk;rw[aat];rfl
end
theorem OX {D S:Int}(hD:0<D)(ï:D<=10000000)(hS:0<=S){g:Int×Int}(hg:Ej D g):vJ [jH (e_ S D),jH g]=.ok (jH (e_ (S+wt D g) D)):=by
 obtain⟨r1,r2,r3,_,r5⟩:=rk hS hD;have le1:=Int.le_of_dvd hD r5;have le2:=Int.le_of_dvd hD hg.2.2;have g2:=hg.2.1;have c1:lq (e_ S D).1 g.2=true:=mm (by lia) (by lia);have c2:lq g.1 (e_ S D).2=true:=mm (by lia) (by lia);have c3:lq (e_ S D).2 g.2=true:=mm (by lia) (by lia);have m1:(e_ S D).2*g.2<=10000000*10000000:=Int.mul_le_mul (by lia) (by lia) (by lia) (by lia);have q:=B6 (t:=(e_ S D).1*g.2+g.1*(e_ S D).2)
  (Int.add_nonneg (adU r1 (by lia)) (adU hg.1 (by lia))) (afj r2 g2) (by (simp at *;lia))
 rw[LQ hD hS hg] at q;unfold vJ D4;unfold jH at q ⊢;simp only[Pzz,gz,c1,c2,c3,q]
theorem TF {D:Int}(hD:0<D)(ï:D<=10000000){l:List (Int×Int)}(h:∀g∈l,Ej D g):lD [.lst (l.map jH)]=.ok (jH (e_ ((l.map (wt D)).sum) D)):=by
 obtain⟨ρ,e,o2,rfl⟩:=cF (sg:=ba 2) (s:=vK)
  (λi ρ=>∃o2,ρ=[some _,some (jH (e_ (((l.take i).map (wt D)).sum) D)),o2])
  (λi u ρ hu θ=>by
   obtain⟨o2,hr⟩:=θ;subst hr;have hi:i<l.length:=by have:=(aap.mp hu).1;rwa [aaa] at this
   rw[aar,aad hi] at hu;obtain rfl:jH l[i]=u:=by injection hu
   have q:=OX hD ï (LP hD (l:=l.take i) λx hx=>h x (acw hx)) (h _ (aaU hi));have sm:(((l.take (i+1)).map (wt D)).sum)=((l.take i).map (wt D)).sum+wt D l[i]:=by
    rw[aaO hi,aaD,afi,aal,ad7,aaS,List.sum_nil,Int.add_zero]
   rw[sm];refine⟨[some _,some _,some _],[some _,some _,some (jH l[i])],rfl,.inl ?_,_,rfl⟩;unfold vK;simp only[Pzz,q])
  (ρ:=[some (.lst (l.map jH)),some (jH (e_ 0 D)),none]) ⟨_,rfl⟩
 rw[aaa,abj] at e;rw[LS hD] at e;unfold lD zA;unfold jH at e ⊢;simp only[Pzz,gz,Nat.reduceAdd,e]
section
variable {D:Int}{m:Fs}{ps:List Int}
def sD (m:Fs)(d:Nat):Int:=(m.map λp=>p.2 d).sum
def YN (nd:Nat)(D:Int)(m:Fs):U:=.lst ((aax nd).map λd=>jH (e_ (sD m d) D))
def TH (p:Int×Int):List Int:=[p.1,p.2]
def cS (nd:Nat)(D:Int)(m:Fs):Nat:=(aX ((aax nd).map λd=>TH (e_ (sD m d) D))).length
theorem TJ (hm:p9 n nd D m)(d:Nat):(∀g∈(m.map λp=>e_ (p.2 d) D),Ej D g)/\((m.map λp=>e_ (p.2 d) D).map (wt D)).sum=sD m d:=by
 refine⟨λg hg=>?_,?_⟩
 ·obtain⟨p,hp,rfl⟩:=aan.mp hg;exact To ((hm.el p hp).2 d) hm.d0
 ·rw[aat];congr 1;exact aav λp hp=>Ek ((hm.el p hp).2 d) hm.d0
theorem WB (hm:p9 n nd D m):∃p:List Int×(Nat->Int),dq (dQ nd D m) (.int 0)=.ok (pU nd D p)/\dq (pU nd D p) (.int 1)=.ok (wU nd D p.2)/\gy [wU nd D p.2]=.ok (.int (nd:Nat)):=by
 obtain⟨p,m',em⟩:∃p m',m=p::m':=by
  cases hq:m with
  |nil=>exact absurd hq hm.ne
  |cons p m'=>lia
 refine⟨p,?_,?_,?_⟩
 ·rw[em];unfold dQ;rw[uX,show (0:Int)=((0:Nat):Int) from rfl,j0];rfl
 ·rfl
 ·unfold wU;rw[mj,aaa,aaJ]
theorem TL (hm:p9 n nd D m)(hd:d<nd)(Zt:∀p:List Int×(Nat->Int),bL 2 (ay (ba 0) (ay (ba 1) bT)) (pU nd D p) (kA js ρ)=.ok [some (ah p.1),some (wU nd D p.2),some (.int (d:Nat))]) :
  G_ (nI js (bL 2 (ay (ba 0) (ay (ba 1) bT))) bO (aR dq (ag 1) (ag 2)) ρ) (m.map (pU nd D))=.ok (m.map λp=>jH (e_ (p.2 d) D)):=bz λp _=>by
 have iw:=Ws hd (D:=D) (w:=p.2);unfold nI;rw[Zt];simp only[Pzz,iw]
theorem OY (hm:p9 n nd D m):jk [dQ nd D m]=.ok (YN nd D m):=by
 have sz:aaf=16777216:=rfl;have n2:=hm.n2;have ln:=hm.ln;have d1:=hm.d1;have dn:=Q2 hm;rw[iP] at dn;have sb:∀ρ,jc (dQ nd D m) ρ=.ok _:=λρ=>rfl;have el:=bz (f:=nI [none,some 0] (ba 0) bO (eo 1 lD (af (eU (cP (ag 1)) [none,none,some 0] (bL 2 (ay (ba 0) (ay (ba 1) bT))) bO (aR dq (ag 1) (ag 2))) aq)) [some (dQ nd D m)]) (c:=λd:Nat=>U.int (d:Nat)) (g:=λd=>jH (e_ (sD m d) D)) λd hd=>by
  have ie:=TL hm (aaH.mp hd) (js:=[none,none,some 0]) (ρ:=[some _,some (dQ nd D m)]) λp=>B5;obtain⟨fo,fs⟩:=TJ hm d;have t:=TF hm.d0 (by lia) fo;rw[fs,aat] at t;have t':lD [.lst (m.map λp=>jH _)]=.ok _:=t;have z:(m.map λp=>jH (e_ (p.2 d) D)).length<=aaf:=by rw[aaa];lia
  simp only[Pzz,sb,ie,t']
 have z2:((aax nd).map λd=>jH (e_ (sD m d) D)).length<=aaf:=by rw[aaa,aaJ];lia
 unfold jk qP;simp only[Pzz,gz,Nat.reduceAdd,Nat.reduceSub,dn,el];rfl
theorem OZ (hm:p9 n nd D m):jw [YN nd D m]=.ok (.int (cS nd D m:Nat))/\1<=cS nd D m:=by
 have n1:=hm.n1;have n2:=hm.n2;have e:((aax nd).map λd=>jH (e_ (sD m d) D))=((aax nd).map λd=>TH (e_ (sD m d) D)).map ah:=by rw[aat];rfl
 have ol:=kS ((aax nd).map λd=>TH (e_ (sD m d) D)) [];rw[aaa,aaJ,abH] at ol;have ol':cS nd D m<=4:=by unfold cS aX;lia
 constructor
 ·unfold YN;rw[e];unfold jw;dsimp only;rw[p7 λk hk=>by obtain⟨p,_,rfl⟩:=aan.mp hk;exact List.cons_ne_nil _ _];dsimp only;rw[hZ (by unfold cS at ol';lia)];rfl
 ·have:TH _∈aX ((aax nd).map λd=>TH (e_ (sD m d) D)):=(cG _ _ _).mpr (.inr (aan.mpr ⟨0,aaH.mpr n1,rfl⟩));exact aet this
theorem Gj (hm:p9 n nd D m):∀x∈Lk m ps,p9 n nd D x.2:=λx hx=>by
 obtain⟨k,hk,rfl⟩:=aan.mp hx;have UJ:=(aH _).mem_iff.mp hk;have fl:=aeT (wQ ps k) m;have ln:=hm.ln;refine⟨λe=>?_,hm.nn.sublist (List.filter_sublist.map _),λp hp=>hm.el p (abX.mp hp).1,by lia,hm.d0,hm.d1,hm.n1,hm.n2⟩;rcases (cG _ _ _).mp UJ with z|z
 ·cases z
 ·obtain⟨p,hp,e2⟩:=aan.mp z;simp_all[wQ,hG]
def qS (nd:Nat)(D:Int)(x:List Int×Fs):Bool:=((cS nd D x.2:Nat):Int)==1
theorem WC {α:Type}(f:α->Bool):∀l:List α,Hd [.lst (l.map λx=>U.bl (f x))]=.ok (.bl (l.all f)):=λl=>by
 have:=Dr (l.map λx=>U.bl (f x)) (λu=>match u with|.bl b=>b|_=>false);rw[aat,List.all_map] at this;exact this
theorem Mb (hm:p9 n nd D m)(hp:UD n ps):cJ [dQ nd D m,ah ps]=.ok (.bl ((Lk m ps).all (qS nd D))):=by
 have sz:aaf=16777216:=rfl;have lo:=zW hm hp;have kl:=wj (ps:=ps) hm;have el:=bz (f:=nI [none,none] (bL 2 (ay (ba 0) (ay (ba 1) bT))) bO (aR (je id) (fi jw (af (eo 1 jk (b1x 1)) aq)) (zqc 1)) [some (dQ nd D m),some (ah ps)]) (c:=UE nd D) (g:=λx=>U.bl (qS nd D x)) (xs:=Lk m ps) λx hx=>by
  have MS:=Gj hm x hx;have s:=OY MS;have l:=(OZ MS).1;unfold UE;simp only[Pzz,B5,s,l];rfl
 have z:((Lk m ps).map λx=>U.bl (qS nd D x)).length<=aaf:=by unfold Lk;rw[aaa,aaa,(aH _).length_eq];lia
 have sb:∀ρ,jc (wg nd D (Lk m ps)) ρ=.ok _:=λρ=>rfl;unfold cJ iZ;simp only[Pzz,gz,Nat.reduceAdd,Nat.reduceSub,lo,sb,el,WC]
end
def sw (m:Fs)(φ:List Int->Bool)(d:Nat):Int:=(m.map λp=>if φ p.1=true then p.2 d else 0).sum
abbrev Tb:=Nat->List (List Int)
def cn (T:Tb)(o:List Int)(φ:List Int->Bool)(d:Nat):Nat:=((T d).filter λt=>φ (aJ t o)).length
structure gr (nd:Nat)(o:List Int)(m:Fs)(T:Tb):Prop where
 s:∀φ d,d<nd->sw m φ d=(cn T o φ d:Int)
 p:∀x∈m,∃d,d<nd/\0<x.2 d
theorem Gk (ψ φ:List Int->Bool)(d:Nat):∀m:Fs,sw (m.filter λp=>ψ p.1) φ d=sw m (λr=>φ r&&ψ r) d
 | []=>rfl
 |p::m=>by
  have ih:=Gk ψ φ d m;unfold sw at ih ⊢;rw[ad0,aal,aaS,←ih];show _=(if (φ p.1&&ψ p.1)=true then p.2 d else 0)+_;cases c:ψ p.1 with
  |true=>rw[hZ rfl,aal,aaS,Bool.and_true]
  |false=>rw[hV aaB,aeG,hV aaB,afB]
theorem gr.filt {m:Fs}{T:Tb}(h:gr nd o m T)(ψ:List Int->Bool):gr nd o (m.filter λp=>ψ p.1) (λd=>(T d).filter λt=>ψ (aJ t o)):=
 ⟨fun φ d hd=>by rw[Gk,h.s _ d hd];unfold cn;simp,λx hx=>h.p x (abX.mp hx).1⟩
theorem Gn {k:List Int}{c:Int}:∀{ks:List (List Int)},ks.Nodup->k∈ks->(ks.map λx=>if k=x then c else 0).sum=c
 |x::ks,hn,hk=>by
  rw[aal,aaS];have Pp:=abe.mp hn;by_cases e:k=x
  ·subst e;rw[hZ rfl,LU λy hy=>hV λz=>Pp.1 (by rw[z];exact hy)];lia
  ·rw[hV e,Gn Pp.2 ((aaA.mp hk).resolve_left e)];lia
theorem TM (F:Fs)(φ:List Int->Bool)(d:Nat):sw (iQ F) φ d=sw F φ d:=by
 unfold sw iQ;rw[aat,LD ((aH (ij F)).map _)];have e1:((ij F).map ((λp:List Int×(Nat->Int)=>if φ p.1=true then p.2 d else 0)∘λk=>(k,xr F k)))=(ij F).map λk=>(F.map λx=>if x.1=k then (if φ x.1=true then x.2 d else 0) else 0).sum:=by
  apply aav;intro k _;show (if φ k=true then xr F k d else 0)=_;unfold xr;split
  ·rename_i c;congr 1;apply aav;intro x _;by_cases e:x.1=k
   ·rw[hZ e,hZ e,e,hZ c]
   ·rw[hV e,hV e]
  ·rename_i c
   symm
   refine LU λx _=>?_;by_cases e:x.1=k
   ·rw[hZ e,e,hV c]
   ·rw[hV e]
 rw[e1,p_ _];congr 1;apply aav;intro x hx;exact Gn (j7 F) (fQ.mpr (aan.mpr ⟨x,hx,rfl⟩))
theorem oH {α:Type}{f:α->Int}:∀{l:List α},(∀x∈l,0<=f x)->∀x∈l,f x<=(l.map f).sum
 |y::l,h,x,hx=>by
  rw[aal,aaS];have a:=h y aae;have b:=zQ λz hz=>h z (aai _ hz);rcases aaA.mp hx with rfl|hx
  ·lia
  ·have:=oH (λz hz=>h z (aai _ hz)) x hx;lia
theorem gr.res {F:Fs}{T:Tb}(nn:∀x∈F,∀d,0<=x.2 d)(h:gr nd o F T):gr nd o (iQ F) T:=by
 refine⟨fun φ d hd=>by rw[TM,h.s φ d hd],λx hx=>?_⟩;obtain⟨k,hk,rfl⟩:=aan.mp hx;obtain⟨y,hy,rfl⟩:=aan.mp (fQ.mp ((aH _).mem_iff.mp hk));obtain⟨d,hd,hp⟩:=h.p y hy;refine⟨d,hd,Int.lt_of_lt_of_le hp ?_⟩;have:=oH (f:=λx:List Int×(Nat->Int)=>if x.1=y.1 then x.2 d else 0) (λz hz=>by
  split
  ·exact nn z hz d
  ·exact aeF _) y hy
 rw[hZ rfl] at this;exact this
theorem gr.beg (hl:γ.length=nd){T:Tb}(ht:∀d,d<nd->∃t,T d=[t]/\γ.getD d []=aJ t o):gr nd o (F0 γ) T:=by
 refine⟨fun φ d hd=>?_,λx hx=>?_⟩
 ·obtain⟨t,e,e2⟩:=ht d hd;have so:=zU (λk=>if φ (γ.getD k [])=true then 1 else 0) d γ.length;rw[hZ (by simp[*]),e2] at so;unfold cn sw F0;rw[e,aat];have:((aax γ.length).map ((λp:List Int×(Nat->Int)=>if φ p.1=true then p.2 d else 0)∘λk=>(γ.getD k [],un k)))=(aax γ.length).map λi=>if d=i then (if φ (γ.getD i [])=true then 1 else 0) else 0:=by
   apply aav;intro k _;show (if φ _=true then un k d else 0)=_;unfold un;lia
  rw[this,so,ad0];split<;>rfl
 ·obtain⟨k,hk,rfl⟩:=aan.mp hx;have:=aaH.mp hk;exact⟨k,by simp_all,by show 0<un k k;unfold un;lia⟩
theorem O0 (m:Fs)(ss:List (List Int))(φ:List Int->Bool)(d:Nat):sw (ff m ss) φ d=(ss.map λs=>sw m (λr=>φ (aJ r s)) d).sum:=by
 unfold sw ff;rw[pY,←p_ _];congr 1;apply aav;intro p _;rw[aat];rfl
theorem B_ {α β:Type}(f:α->List β)(q:β->Bool):∀l:List α,(((l.flatMap f).filter q).length:Int)=(l.map λa=>(((f a).filter q).length:Int)).sum
 | []=>rfl
 |a::l=>by rw[abR,List.filter_append,aay,aal,aaS,←B_ f q l];rfl
theorem Ca {α β:Type}(f:α->β)(q:β->Bool):∀l:List α,((l.map f).filter q).length=(l.filter λa=>q (f a)).length
 | []=>rfl
 |a::l=>by
  rw[aal,ad0,ad0];have:=Ca f q l;split
  ·rw[aaw,aaw,this]
  ·exact this
theorem gr.flat {m:Fs}{T:Tb}(h:gr nd o m T)(hl:∀s∈ss,∀d,d<nd->∀t∈T d,aJ (aJ t o) (lf s)=aJ (aJ t s) o)(ne:ss≠[]):gr nd o (ff m (ss.map lf)) (λd=>ss.flatMap λs=>(T d).map λt=>aJ t s):=by
 refine⟨fun φ d hd=>?_,λx hx=>?_⟩
 ·rw[O0,aat];unfold cn;rw[B_];congr 1;apply aav;intro s hs;show sw m (λr=>φ (aJ r (lf s))) d=_;rw[h.s _ d hd,Ca];unfold cn;congr 2;apply afU;intro t ht;show φ _=_;rw[hl s hs d hd t ht]
 ·obtain⟨p,hp,hx⟩:=abz.mp hx;obtain⟨s,_,rfl⟩:=aan.mp hx;exact h.p p hp
theorem gr.pos {m:Fs}{T:Tb}(h:gr nd o m T)(nn:∀x∈m,∀d,0<=x.2 d){x:List Int×(Nat->Int)}(hx:x∈m)(hd:d<nd)(hp:0<x.2 d):∃t∈T d,aJ t o=x.1:=by
 have e:=h.s (λr=>decide (r=x.1)) d hd;have l:=oH (f:=λp:List Int×(Nat->Int)=>if decide (p.1=x.1)=true then p.2 d else 0) (λz hz=>by
  split
  ·exact nn z hz d
  ·exact aeF _) x hx
 rw[hZ (hG rfl)] at l;unfold sw at e;rw[e] at l;have:0<cn T o (λr=>decide (r=x.1)) d:=by lia
 obtain⟨t,ht⟩:=List.exists_mem_of_length_pos (this);grind
theorem Cb {α:Type}{f:α->Int}:∀{l:List α},0<(l.map f).sum->∃x∈l,0<f x
 | [],h=>by simp at h
 |y::l,h=>by
  rw[aal,aaS] at h;by_cases c:0<f y
  ·exact⟨y,aae,c⟩
  ·obtain⟨x,hx,hp⟩:=Cb (l:=l) (f:=f) (by (simp at *;lia));exact⟨x,aai _ hx,hp⟩
theorem gr.mem {m:Fs}{T:Tb}(h:gr nd o m T)(hd:d<nd){t:List Int}(ht:t∈T d):∃x∈m,x.1=aJ t o/\0<x.2 d:=by
 have e:=h.s (λr=>decide (r=aJ t o)) d hd;have:0<cn T o (λr=>decide (r=aJ t o)) d:=aet (abX.mpr ⟨ht,hG rfl⟩);unfold sw at e;obtain⟨x,hx,hp⟩:=Cb (by rw[e];simp[*]);split at hp
 ·rename_i c;exact⟨x,hx,of_decide_eq_true c,hp⟩
 ·lia
theorem qb {sg:U->Ev->R Ev}{s:Ev->SR}(I:Nat->Ev->Prop)(P:U->Prop):∀{us:List U} {b:Nat} {ρ:Ev},(∀i u ρ,us[i]? = some u->I (b+i) ρ->∃η,sg u ρ=.ok η/\((∃ν,s η=.nx ν/\I (b+i+1) ν)\/∃v ν,P v/\s η=.rt v ν))->I b ρ ->
  (∃ε,dO sg s us ρ=.nx ε/\I (b+us.length) ε)\/∃v ε,P v/\dO sg s us ρ=.rt v ε
 | [],b,ρ,_,h=>.inl ⟨ρ,y8,h⟩
 |u::us,b,ρ,st,h=>by
  obtain⟨η,e1,z⟩:=st 0 u ρ rfl h;rw[dE,e1];rcases z with⟨ν,e2,h2⟩|⟨v,ν,hP,e2⟩
  ·have ih:=qb I P (λi u ρ hu hi=>by
    have:=st (i+1) u ρ hu (by rw[show b+(i+1)=b+1+i by lia];exact hi);rw[show b+(i+1)=b+1+i by lia] at this;exact this) h2
   rw[aaw,show b+(us.length+1)=b+1+us.length by lia];show (∃ε,(s η).turn _=.nx ε/\_)\/∃v ε,P v/\(s η).turn _=.rt v ε;rw[e2];exact ih
  ·refine .inr ⟨v,ν,hP,?_⟩;show (s η).turn _=_;rw[e2];rfl
theorem wm {s:Ev->SR}(I:Nat->Ev->Prop)(E:Prop)(v:U){b:Nat}(st:∀i u ρ,us[i]? = some u->I (b+i) ρ->∃η,sg u ρ=.ok η/\((∃ν,s η=.nx ν/\I (b+i+1) ν)\/(E/\∃ν,s η=.rt v ν)))(h:I b ρ) :
  (∃ε,dO sg s us ρ=.nx ε/\I (b+us.length) ε)\/(E/\∃ε,dO sg s us ρ=.rt v ε):=by
 rcases qb I (λu=>u=v/\E) (λi u ρ hu hi=>by
  obtain⟨η,e1,z⟩:=st i u ρ hu hi;exact⟨η,e1,z.imp id fun⟨hE,ν,e⟩=>⟨v,ν,⟨rfl,hE⟩,e⟩⟩) h with z|⟨u,ε,⟨rfl,hE⟩,e⟩
 ·exact .inl z
 ·exact .inr ⟨hE,ε,e⟩
def lM:Option Int->U
 |none=>.non
 |some i=>.int i
theorem TN {f:Bool->Bool}{ds:List D}(hx:l9 u=some dx)(hs:ke us=some ds)(hd:∀d∈ds,fj d<=30):An f u (.tup us)=.ok (.bl (f (ds.any λd=>k8 d dx))):=by
 simp_all[An,DR,bind,ke,hZ,hG]
theorem Mc (t:Option Int)(c:Int):An not (lM t) (.tup [.non,.int c])=.ok (.bl (decide (t≠none/\t≠some c))):=by
 have hd:∀d∈([.non,.int c]:List D),fj d<=30:=λd h=>by
  simp only[aaA,acJ,or_false] at h;rcases h with rfl|rfl<;>(unfold fj;lia)
 cases t with
 |none=>
  rw[TN (dx:=.non) (by simp[l9,lM]) (by simp[ke,l9]) hd];rfl
 |some i=>
  rw[TN (dx:=.int i) (by simp[l9,lM]) (by simp[ke,l9]) hd];simp[k8,eq_comm];exact abo.mpr (by simp)
theorem Gp {a D:Int}(ha:0<=a)(hD:0<D):((e_ a D).1>0)=(0<a):=by
 obtain⟨r1,r2,r3,_,_⟩:=rk ha hD;apply propext;constructor
 ·intro h;have:=afj h hD;rw[r3] at this;exact Int.pos_of_mul_pos_left this r2
 ·intro h;have:=afj h r2;rw[←r3] at this;exact Int.pos_of_mul_pos_left this hD
def Cc (p:Nat)(x:List Int×(Nat->Int)):Int:=x.1.getD p 0
theorem rq {row:List Int}(h:p<row.length):dq (ah row) (.int (p:Nat))=.ok (.int (row.getD p 0)):=by
 unfold ah;rw[uX,j0,aar,aag,aad h];rfl
section
variable {D:Int}{m:Fs}
theorem Gq:∀(us:List U) (i k:Nat),(ya i us)[k]? = us[k]?.map λu=>.tup [.int (i+k:Nat),u]
 | [],_,_=>rfl
 |u::us,i,0=>rfl
 |u::us,i,k+1=>by
  have:=Gq us (i+1) k;rw[show i+1+k=i+(k+1) by lia] at this;exact this
theorem Me (nd:Nat)(f:Nat->U):ya 0 ((aax nd).map f)=(aax nd).map λd=>U.tup [.int (d:Nat),f d]:=by
 refine acU λk=>?_;rw[Gq,aar,aar,abw];by_cases c:k<nd
 ·rw[abh c];rfl
 ·rw[aa9.mpr (by rw[aaJ];simp_all)];rfl
theorem TQ {x:List Int×(Nat->Int)}(hx:∀d,0<=x.2 d)(hD:0<D)(hp:p<x.1.length){tl:List (Option Int)}(hd:d<tl.length) :
  eI [x0,some (.int (p:Nat)),some (.lst (tl.map lM)),some (ah x.1),x4,some (.int (d:Nat)),some (jH (e_ (x.2 d) D))] =
   if 0<x.2 d then (if tl.getD d none≠none/\tl.getD d none≠some (Cc p x) then .rt .non [x0,some (.int (p:Nat)),some (.lst (tl.map lM)),some (ah x.1),x4,some (.int (d:Nat)),some (jH (e_ (x.2 d) D))] else .nx [x0,some (.int (p:Nat)),some (.lst ((tl.set d (some (Cc p x))).map lM)),some (ah x.1),x4,some (.int (d:Nat)),some (jH (e_ (x.2 d) D))])
   else .nx [x0,some (.int (p:Nat)),some (.lst (tl.map lM)),some (ah x.1),x4,some (.int (d:Nat)),some (jH (e_ (x.2 d) D))]:=by
 have e1:dq (jH (e_ (x.2 d) D)) (.int 0)=.ok (.int (e_ (x.2 d) D).1):=by rfl
 have e2:dq (.lst (tl.map lM)) (.int (d:Nat))=.ok (lM (tl.getD d none)):=by
  rw[xZ,j0,aar,aag,aad hd];rfl
 have e3:=rq hp;have e4:Am (tl.map lM).length (d:Nat)=some d:=by simp_all[aaa,Am,hZ]
 have l2:(2:Nat)<=aaf:=by decide
 have cr:x.1.getD p 0=Cc p x:=rfl;unfold eI;by_cases c:0<x.2 d
 ·rw[hZ c];have c1:decide ((e_ _ D).1>0)=true:=hG (by rw[Gp (hx d) hD];exact c);by_cases c2:tl.getD d none≠none/\tl.getD d none≠some (Cc p x)
  ·rw[hZ c2];simp only[Pzz,e1,e2,e3,c1,Mc,cr,hG c2,l2]
  ·rw[hV c2];simp only[Pzz,e1,e2,e3,c1,Mc,cr,hJ c2,l2,FE e4,List.map_set];rfl
 ·rw[hV c];have c1:decide ((e_ _ D).1>0)=false:=hJ (by rw[Gp (hx d) hD];exact c);simp only[Pzz,e1,c1]
theorem TR {x:List Int×(Nat->Int)}(hx:∀d,0<=x.2 d)(hD:0<D)(hp:p<x.1.length){tl:List (Option Int)}(hl:tl.length=nd) :
  (∃(Η:List (Option Int)) (a5 a6:Option U),fY [x0,some (.int (p:Nat)),some (.lst (tl.map lM)),some (ah x.1),some (wU nd D x.2),o5,o6]=.nx [x0,some (.int (p:Nat)),some (.lst (Η.map lM)),some (ah x.1),some (wU nd D x.2),a5,a6]/\Η.length=nd/\∀d,d<nd->if 0<x.2 d then (tl.getD d none=none\/tl.getD d none=some (Cc p x))/\Η.getD d none=some (Cc p x) else Η.getD d none=tl.getD d none) \/
  ((∃d,d<nd/\0<x.2 d/\tl.getD d none≠none/\tl.getD d none≠some (Cc p x))/\∃ε,fY [x0,some (.int (p:Nat)),some (.lst (tl.map lM)),some (ah x.1),some (wU nd D x.2),o5,o6]=.rt .non ε):=by
 have el:=Me nd λd=>jH (e_ (x.2 d) D);have run:fY [x0,some (.int (p:Nat)),some (.lst (tl.map lM)),some (ah x.1),some (wU nd D x.2),o5,o6]=dO (bL 2 (ay (ba 5) (ay (ba 6) bT))) eI ((aax nd).map λd=>U.tup [.int (d:Nat),jH (e_ (x.2 d) D)]) [x0,some (.int (p:Nat)),some (.lst (tl.map lM)),some (ah x.1),some (wU nd D x.2),o5,o6]:=by
  unfold fY;rw[←el];rfl
 rw[run];rcases wm (b:=0) (sg:=bL 2 (ay (ba 5) (ay (ba 6) _)))
  (λj ρ=>∃(Η:List _) (a5 a6:Option U),ρ=[x0,some (.int (p:Nat)),some (.lst (Η.map lM)),some (ah x.1),some (wU nd D x.2),a5,a6]/\Η.length=nd/\∀d,d<nd->if d<j/\0<x.2 d then (tl.getD d none=none\/tl.getD d none=some (Cc p x))/\Η.getD d none=some (Cc p x) else Η.getD d none=tl.getD d none)
  (∃d,d<nd/\0<x.2 d/\tl.getD d none≠none/\tl.getD d none≠some _) .non (λi u ρ hu θ=>by
   obtain⟨Η,a5,a6,hr,l4,Γ⟩:=θ;subst hr;rw[abw] at Γ ⊢;have hi:i<nd:=by have:=(aap.mp hu).1;rwa [aaa,aaJ] at this
   have Px:u=.tup [.int (i:Nat),jH (e_ (x.2 i) D)]:=by
    rw[aar,abh hi] at hu;injection hu with hu;exact hu.symm
   subst Px;refine⟨_,B5,?_⟩;have t:=TQ hx hD hp (tl:=Η) (d:=i) (by lia) (x0:=x0) (x4:=some (wU nd D x.2));have ii:=Γ i hi;rw[hV (by lia)] at ii;show (∃ν,eI [x0,some _,some _,some _,some _,some _,some _]=.nx ν/\_)\/(_/\∃ν,eI [x0,some _,some _,some _,some _,some _,some _]=.rt .non ν);rw[t];by_cases c:0<x.2 i
   ·rw[hZ c];by_cases c2:Η.getD i none≠none/\Η.getD i none≠some (Cc p x)
    ·rw[hZ c2];rw[ii] at c2;exact .inr ⟨⟨i,hi,c,c2⟩,_,rfl⟩
    ·rw[hV c2];refine .inl ⟨_,rfl,Η.set i _,_,_,rfl,by rw[abu];exact l4,λd hd=>?_⟩;rw[ii] at c2;by_cases cd:d=i
     ·subst cd;rw[hZ ⟨by lia,c⟩];refine⟨?_,?_⟩
      ·by_cases z:tl.getD d none=none
       ·exact .inl z
       ·exact .inr (Classical.not_not.mp λy=>c2 ⟨z,y⟩)
      ·rw[aag,abK (by lia)];rfl
     ·have id:=Γ d hd;rw[aag (l:=Η.set i _),aaV (λz=>cd z.symm)];by_cases cz:d<i/\0<x.2 d
      ·rw[hZ cz] at id;rw[hZ ⟨by lia,cz.2⟩];exact id
      ·rw[hV cz] at id;rw[hV λz=>cz ⟨by lia,z.2⟩];exact id
   ·rw[hV c];refine .inl ⟨_,rfl,Η,_,_,rfl,l4,λd hd=>?_⟩;have id:=Γ d hd;by_cases cz:d<i/\0<x.2 d
    ·rw[hZ cz] at id;rw[hZ ⟨by lia,cz.2⟩];exact id
    ·rw[hV cz] at id;rw[hV λz=>cz ⟨by
      have:d≠i:=λy=>by subst y;exact c z.2
      lia,z.2⟩];exact id) ⟨tl,o5,o6,rfl,hl,λd hd=>by rfl⟩ with⟨ε,e,Η,a5,a6,rfl,l4,Γ⟩|⟨hE,ε,e⟩
 ·refine .inl ⟨Η,a5,a6,e,l4,λd hd=>?_⟩;have id:=Γ d hd;by_cases cz:0<x.2 d
  ·rw[hZ ⟨by rw[aaa,aaJ];lia,cz⟩] at id;rw[hZ cz];exact id
  ·rw[hV λz=>cz z.2] at id;rw[hV cz];exact id
 ·exact .inr ⟨hE,ε,e⟩
theorem n4:(aa_ nd (none:Option Int)).getD d none=none:=by
 rw[aag,aee];split<;>rfl
theorem YO (h:nd<=4):FU (.lst [.non]) (.int (nd:Nat))=.ok (.lst ((aa_ nd (none:Option Int)).map lM)):=by
 have:nd=0\/nd=1\/nd=2\/nd=3\/nd=4:=by lia
 rcases this with rfl|rfl|rfl|rfl|rfl<;>kernel_rfl
theorem O1 (hm:p9 n nd D m)(hp:p<n)(MJ:∀d,d<nd->∃x∈m,0<x.2 d) :
  (∃gs:List Int,gs.length=nd/\cQ [dQ nd D m,.int (p:Nat)]=.ok (ah gs)/\∀x∈m,∀d,d<nd->0<x.2 d->Cc p x=gs.getD d 0)\/(cQ [dQ nd D m,.int (p:Nat)]=.ok .non/\∀g:Nat->Int,¬∀x∈m,∀d,d<nd->0<x.2 d->Cc p x=g d):=by
 obtain⟨q,h1,h2,h3⟩:=WB hm;have ml:=YO hm.n2;have l1:(1:Nat)<=aaf:=by decide
 have sb:∀ρ,jc (dQ nd D m) ρ=.ok _:=λρ=>rfl;rcases wm (b:=0) (sg:=bL 2 (ay (ba 3) (ay (ba 4) _)))
  (λi ρ=>∃(tl:List _) (a3 a4 a5 a6:Option U),ρ=[some (dQ nd D m),some (.int (p:Nat)),some (.lst (tl.map lM)),a3,a4,a5,a6]/\tl.length=nd/\(∀x∈m.take i,∀d,d<nd->0<x.2 d->tl.getD d none=some (Cc p x))/\∀d,d<nd->tl.getD d none≠none->∃x∈m,0<x.2 d/\tl.getD d none=some (Cc p x))
  (∀g:Nat->Int,¬∀x∈m,∀d,d<nd->0<x.2 d->Cc p x=g d) .non (λi u ρ hu θ=>by
   obtain⟨tl,a3,a4,a5,a6,hr,l4,Γ,Pr⟩:=θ;subst hr;rw[abw] at Γ ⊢;have hi:i<m.length:=by have:=(aap.mp hu).1;rwa [aaa] at this
   have Px:u=pU nd D m[i]:=by
    rw[aar,aad hi] at hu;injection hu with hu;exact hu.symm
   subst Px;have hx:=hm.el _ (aaU hi);refine⟨_,B5,?_⟩;rcases TR hx.2 hm.d0 (by rw[hx.1];exact hp) l4 with⟨Η,b5,b6,e,l4',st⟩|⟨⟨d,hd,c1,c2,c3⟩,ε,e⟩
   ·refine .inl ⟨_,e,Η,_,_,_,_,rfl,l4',λx ñ d hd Ar=>?_,λd hd ne=>?_⟩
    ·have sd:=st d hd;rw[aaO hi] at ñ;rcases aaQ.mp ñ with z|z
     ·have i0:=Γ x z d hd Ar;by_cases c:0<m[i].2 d
      ·rw[hZ c] at sd;rcases sd.1 with y|y
       ·rw[y] at i0;cases i0
       ·rw[sd.2,←y];exact i0
      ·rw[hV c] at sd;rw[sd];exact i0
     ·rw[aau] at z;subst z;rw[hZ Ar] at sd;exact sd.2
    ·have sd:=st d hd;by_cases c:0<m[i].2 d
     ·rw[hZ c] at sd;exact⟨_,aaU hi,c,sd.2⟩
     ·rw[hV c] at sd;rw[sd] at ne ⊢;exact Pr d hd ne
   ·refine .inr ⟨λg hg=>?_,ε,e⟩;obtain⟨y,hy,y1,y2⟩:=Pr d hd c2;rw[y2] at c3;exact c3 (by rw[hg y hy d hd y1,hg _ (aaU hi) d hd c1])) ⟨aa_ nd none,none,none,none,none,rfl,acM,(λx hx=>by cases hx),λd hd ne=>absurd n4 ne⟩ with⟨ε,e,tl,a3,a4,a5,a6,rfl,l4,Γ,Pr⟩|⟨hE,ε,e⟩
 ·left;rw[abw,aaa,abj] at Γ;have ne:∀d,d<nd->tl.getD d none≠none:=λd hd z=>by
   obtain⟨x,hx,hp⟩:=MJ d hd;have:=Γ x hx d hd hp;rw[z] at this;cases this
  have et:tl.map lM=((tl.map λt=>t.getD 0).map U.int):=by
   rw[aat];apply aav;intro t ht;obtain⟨d,hd,rfl⟩:=adL.mp ht;have:=ne d (by lia);rw[aag,aad hd] at this;cases z:tl[d] with
   |none=>rw[z] at this;exact absurd rfl this
   |some i=>rfl
  refine⟨tl.map λt=>t.getD 0,by rw[aaa];exact l4,?_,λx hx d hd Ar=>?_⟩
  ·unfold cQ jf;simp only[Pzz,gz,h1,h2,h3,ml,l1,sb,e,et];rfl
  ·have:=Γ x hx d hd Ar;rw[aag] at this;rw[aag,aar];cases z:tl[d]? with
   |none=>rw[z] at this;cases this
   |some t=>rw[z] at this;cases this;rfl
 ·right;refine⟨?_,hE⟩;unfold cQ jf;simp only[Pzz,gz,h1,h2,h3,ml,l1,sb,e]
end
noncomputable def CB (nd:Nat)(T:Tb)(c:Nat)(g:List Int):Bool:=(aax nd).all λd=>(T d).all λt=>t.getD c 0==g.getD d 0
def pl (o:List Int)(p:Nat):Nat:=(o.getD p 0).toNat
theorem iJ {T:Tb}:CB nd T c g=true↔∀d,d<nd->∀t∈T d,t.getD c 0=g.getD d 0:=by
 unfold CB;rw[aaK];constructor
 ·intro h d hd t ht;exact eq_of_beq (aaK.mp (h d (aaH.mpr hd)) t ht)
 ·intro h d hd;exact aaK.mpr λt ht=>by rw[h d (aaH.mp hd) t ht];exact beq_self_eq_true _
structure St (n nd:Nat)(o:List Int)(D:Int)(m:Fs)(T:Tb):Prop where
 k:p9 n nd D m
 po:bA n o
 n8:n<=8
 r:gr nd o m T
 a:∀d,d<nd->T d≠[]
theorem zX (n:Nat):(aQ n).Nodup:=by
 unfold aQ afZ;rw[ach];exact List.Pairwise.imp (λ{a b} h e=>h (by lia)) (adX)
theorem wo {t:List Int}(h:p<o.length):(aJ t o).getD p 0=t.getD (pl o p) 0:=by
 unfold aJ pl;rw[aag,aar,aag (l:=o),aad h];rfl
section
variable {D:Int}{m:Fs}{T:Tb}
theorem St.ln (S:St n nd o D m T):o.length=n:=bR S.po
theorem St.nn (S:St n nd o D m T):∀x∈m,∀d,0<=x.2 d:=λx hx=>(S.k.el x hx).2
theorem St.has (S:St n nd o D m T)(hd:d<nd):∃t,t∈T d:=by
 cases e:T d with
 |nil=>exact absurd e (S.a d hd)
 |cons t ts=>exact⟨t,aae⟩
theorem O2 (S:St n nd o D m T)(hp:p<n):∃u,cQ [dQ nd D m,.int (p:Nat)]=.ok u/\(u=.non\/∃gs,u=ah gs)/\∀g:List Int,g.length=nd->(u=ah g↔CB nd T (pl o p) g=true):=by
 have lo:p<o.length:=by rw[S.ln];exact hp
 have cr:∀x∈m,∀t,x.1=aJ t o->Cc p x=t.getD _ 0:=λx _ t e=>by unfold Cc;rw[e,wo lo]
 have al:∀d,d<nd->∃x∈m,0<x.2 d:=λd hd=>by
  obtain⟨t,ht⟩:=S.has hd;obtain⟨x,hx,_,h2⟩:=S.r.mem hd ht;exact⟨x,hx,h2⟩
 rcases O1 S.k hp al with⟨gs,l4,e,h⟩|⟨e,h⟩
 ·have key:∀d,d<nd->∀t∈T d,t.getD _ 0=gs.getD d 0:=λd hd t ht=>by
   obtain⟨x,hx,h1,h2⟩:=S.r.mem hd ht;rw[←cr x hx t h1];exact h x hx d hd h2
  refine⟨_,e,.inr ⟨gs,rfl⟩,λg hg=>?_⟩;rw[fz,iJ];constructor
  ·rintro rfl;exact key
  ·intro Pt;refine adZ (by lia) λd h1 h2=>?_;obtain⟨t,ht⟩:=S.has (d:=d) (by simp_all);have a:=key d (by simp_all) t ht;have b:=Pt d (by simp_all) t ht;rw[a,aag,aag,aad h1,aad h2] at b;exact b
 ·refine⟨_,e,.inl rfl,λg hg=>?_⟩;constructor
  ·intro z;cases z
  ·intro z;rw[iJ] at z;refine absurd (λx hx d hd Ar=>?_) (h λd=>g.getD d 0);obtain⟨t,ht,e2⟩:=S.r.pos S.nn hx hd Ar;rw[cr x hx t e2.symm];exact z d hd t ht
theorem TU {α:Type}[Inhabited α]{P:Nat->α->Prop}(h:∀p,p<n->∃u,P p u):∃f:Nat->α,∀p,p<n->P p (f p):=
 ⟨λp=>if c:p<n then aeY (h p c) else default,λp c=>by dsimp only;rw[dif_pos c];exact adu _⟩
def g8 (δ:List (List Int)):U:=.lst (δ.map ah)
def gW (δ:List (List Int))(k:Nat):List Int:=δ.map λg=>g.getD k 0
def Ce (nd:Nat)(T:Tb)(o:List Int)(g:List Int)(ps:List Nat)(p:Nat):Bool:=CB nd T (pl o p) g && !(ps.contains p)
theorem O3 {u:U}(h:u=.non\/∃gs,u=ah gs)(g:List Int)[Decidable (u=ah g)]:o_ u (ah g)=.ok (decide (u=ah g)):=by
 rcases h with rfl|⟨gs,rfl⟩
 ·unfold o_;have:l9 (ah g)=some (.tup (g.map .int)):=by unfold ah l9;rw[mY];rfl
  rw[this];unfold l9;dsimp only;rw[hZ (by unfold fj;lia)];unfold k8;rw[hJ (by intro z;cases z)]
 ·have e:o_ (ah gs) (ah g)=.ok _:=KC _ _;rw[e];congr 1;exact decide_eq_decide.mpr fz.symm
theorem TV {f:Bool->Bool}{dx:L2.D}{ds:List L2.D}(hx:l9 u=some dx)(hs:ke us=some ds)(hd:∀d∈ds,fj d<=30):An f u (.lst us)=.ok (.bl (f (ds.any λd=>k8 d dx))):=by
 unfold An;rw[hx,show (DR (.lst us)).bind ke=some ds from hs];dsimp only;rw[hZ (aaK.mpr λd h=>hG (hd d h))]
theorem WD (p:Nat)(ps:List Nat):An not (.int (p:Nat)) (.lst (ps.map λq:Nat=>U.int (q:Nat)))=.ok (.bl (!(ps.contains p))):=by
 have e1:ps.map (λq:Nat=>U.int (q:Nat))=(ps.map λq:Nat=>(q:Int)).map U.int:=by rw[aat];rfl
 rw[e1,TV (by rfl) (mY _) (λd h=>by
  obtain⟨i,_,rfl⟩:=aan.mp h;unfold fj;lia)]
 congr 3;rw[List.any_map,List.any_map,abo,adW,List.contains_iff_mem];constructor
 ·rintro⟨q,hq,e⟩;unfold k8 at e;have:=by simpa using e
  have:q=p:=by (simp at *;lia)
  rw[←this];exact hq
 ·intro h;exact⟨p,h,oQ _⟩
structure Du (nd z:Nat)(δ:List (List Int)):Prop where
 l:δ.length=nd
 w:∀g∈δ,g.length=z
 z1:z=1\/z=2
theorem Gs (h:Du nd z δ)(k:Nat):(gW δ k).length=nd:=by unfold gW;rw[aaa,h.l]
abbrev qU (ps:List Nat):U:=.lst (ps.map λq:Nat=>U.int (q:Nat))
def Z2 (n nd:Nat)(o:List Int)(T:Tb)(tU:Nat->U):Prop:=∀p,p<n->(tU p=.non\/∃gs,tU p=ah gs)/\∀g:List Int,g.length=nd->(tU p=ah g↔CB nd T (pl o p) g=true)
theorem Gu (S:St n nd o D m T){tU:Nat->U}(ht:Z2 n nd o T tU)(hd:Du nd z δ)(hk:k<z){ps:List Nat}(hps:ps.length<10) :
  ∃a6:Option U,jg [x0,some (g8 δ),some (.lst ((aax n).map tU)),some (qU ps),some (.int (k:Nat)),o5,o6]=match (aax n).filter (Ce nd T o (gW δ k) ps) with
   | []=>.rt .non [x0,some (g8 δ),some (.lst ((aax n).map tU)),some (qU ps),some (.int (k:Nat)),some (ah (gW δ k)),a6]
   |q::_=>.nx [x0,some (g8 δ),some (.lst ((aax n).map tU)),some (qU (ps++[q])),some (.int (k:Nat)),some (ah (gW δ k)),a6]:=by
 have sz:aaf=16777216:=rfl;have n8:=S.n8;have n2:=S.k.n2;have sb:∀ρ,jc (g8 δ) ρ=.ok _:=λρ=>rfl;have e1:=bz (f:=nI [none,some 4] (ba 0) bO (aR dq (ag 0) (ag 1)) [x0,some (g8 δ),some (.lst ((aax n).map tU)),some (qU ps),some (.int (k:Nat)),o5,o6]) (c:=ah) (g:=λg=>U.int (g.getD k 0)) λg hg=>by
  have:=rq (by rw[hd.w g hg];exact hk);simp only[Pzz,this]
 have r1:(δ.map λg=>U.int (g.getD k 0))=(gW δ k).map U.int:=by unfold gW;rw[aat];rfl
 have z1:((gW δ k).map U.int).length<=aaf:=by rw[aaa,Gs hd];lia
 rw[r1] at e1;have lt:((aax n).map tU).length=n:=by rw[aaa,aaJ]
 have e2:=yw (f:=nI [none,some 5,some 3,some 2] (ba 0) (yM (gB (aR (NL id) (aR dq (ag 3) (ag 0)) (ag 1))) (gB (aR (An not) (ag 0) (ag 2)))) (ag 0) [x0,some (g8 δ),some (.lst ((aax n).map tU)),some (qU ps),some (.int (k:Nat)),some (ah (gW δ k)),o6]) (c:=λp:Nat=>U.int (p:Nat)) (p:=Ce nd T o _ ps) (xs:=aax n) λp hp=>by
  have hp:=aaH.mp hp;obtain⟨t1,t2⟩:=ht p hp;have t3:=t2 _ (Gs hd k);have e3:dq (.lst ((aax n).map tU)) (.int (p:Nat))=.ok (tU p):=by rw[xZ,j0,aar,abh hp];rfl
  have e4:=O3 t1 (gW δ k);have e5:=WD p ps;unfold Ce;by_cases c:CB nd T (pl o p) (gW δ k)=true
  ·rw[hG (t3.mpr c)] at e4;rw[c,Bool.true_and];cases c2:ps.contains p with
   |true=>simp only[Pzz,e3,e4,e5,c2,id_eq]
   |false=>simp only[Pzz,e3,e4,e5,c2,id_eq]
  ·rw[hJ λz=>c (t3.mp z)] at e4;rw[ac_] at c;rw[c,Bool.false_and];simp only[Pzz,e3,e4,id_eq]
 have z2:(((aax n).filter (Ce nd T o (gW δ k) ps)).map λp:Nat=>U.int (p:Nat)).length<=aaf:=by
  have:=aeT (Ce nd T o (gW δ k) ps) (aax n);rw[aaJ] at this;rw[aaa];lia
 refine⟨some (qU ((aax n).filter (Ce nd T o (gW δ k) ps))),?_⟩;have rg:∀ρ,sZ _ ρ=.ok _:=λρ=>gI n (by lia);unfold jg;have row:U.tup _=ah (gW δ k):=rfl;cases ef:(aax n).filter _ with
 |nil=>
  rw[ef] at e2;simp only[Pzz,sb,e1,row,lt,rg,iP,e2,id_eq];rfl
 |cons q r=>
  rw[ef] at e2 z2;have ne:(((r.length+1:Nat):Int)==0)=false:=by
   rw[beq_eq_false_iff_ne];(simp;lia)
  have z3:ps.length<aaf:=by lia
  have e6:dq (.lst (((q::r).map λp:Nat=>U.int (p:Nat)))) (.int 0)=.ok (.int (q:Nat)):=by rw[xZ,show (0:Int)=((0:Nat):Int) from rfl,j0];rfl
  have ap:(ps++[q]).map (λq:Nat=>U.int (q:Nat))=(ps.map λq:Nat=>U.int (q:Nat))++[U.int (q:Nat)]:=by rw[aaD];rfl
  simp only[Pzz,sb,e1,row,lt,rg,iP,e2,aaa,ne,id_eq,j8,z3,qU,ap]
theorem St.hd (S:St n nd o D m T):∃q:List Int×(Nat->Int),dq (dQ nd D m) (.int 0)=.ok (pU nd D q)/\dq (pU nd D q) (.int 0)=.ok (ah q.1)/\gy [ah q.1]=.ok (.int (n:Nat)):=by
 obtain⟨q,m',em⟩:∃q m',m=q::m':=by
  cases hq:m with
  |nil=>exact absurd hq S.k.ne
  |cons q m'=>lia
 refine⟨q,by rw[em];unfold dQ;rw[uX,show (0:Int)=((0:Nat):Int) from rfl,j0];rfl,ix0 q,?_⟩;unfold ah;rw[mj,aaa,(S.k.el q (by rw[em];exact aae)).1]
theorem TX (S:St n nd o D m T)(hd:Du nd z δ):∃tU:Nat->U,Z2 n nd o T tU/\
  cC [dQ nd D m,g8 δ]=Bh .S ((dO (ba 4) jg (bu 0 z) [some (dQ nd D m),some (g8 δ),some (.lst ((aax n).map tU)),some (qU []),none,none,none]).seq (bx (bQ (af (gC (.str "end")) (af (fi bJ (b1x 3)) aq))))):=by
 obtain⟨tU,ht⟩:=TU λp (hp:p<n)=>O2 S hp;refine⟨tU,λp hp=>(ht p hp).2,?_⟩;have sz:aaf=16777216:=rfl;have n8:=S.n8;obtain⟨q,h1,h2,h3⟩:=S.hd;have rg:∀ρ,sZ _ ρ=.ok _:=λρ=>gI n (by lia);have z2:z<=2:=by rcases hd.z1 with e|e<;>omega
 have rg2:∀ρ,sZ _ ρ=.ok _:=λρ=>gI z (by lia);have e1:=bz (f:=nI [none,some 0] (ba 0) bO (eo 2 cQ (yqa 1 0)) [some (dQ nd D m),some (g8 δ),none,none,none,none,none]) (c:=λp:Nat=>U.int (p:Nat)) (g:=tU) (xs:=aax n) λp hp=>by
  simp only[Pzz,(ht p (aaH.mp hp)).1]
 have z1:((aax n).map tU).length<=aaf:=by rw[aaa,aaJ];lia
 obtain⟨d,Ñ,ed⟩:∃d Ñ,δ=d::Ñ:=by
  cases hq:δ with
  |nil=>have:=S.k.n1;have:=hd.l;rw[hq,abH] at this;lia
  |cons d Ñ=>exact⟨d,Ñ,rfl⟩
 have h4:dq (g8 δ) (.int 0)=.ok (ah d):=by rw[ed];unfold g8;rw[xZ,show (0:Int)=((0:Nat):Int) from rfl,j0];rfl
 have h5:gy [ah d]=.ok (.int (z:Nat)):=by unfold ah;rw[mj,aaa,hd.w d (by rw[ed];exact aae)]
 have l0:=by omega
 unfold cC mF;simp only[Pzz,gz,h1,h2,h3,rg,iP n,e1,h4,rg2,l0,qU]
theorem St.pl_lt (S:St n nd o D m T)(hp:p<n):pl o p<n:=by
 have lo:p<o.length:=by rw[S.ln];exact hp
 have:=fc S.po _ (aaU lo);unfold pl;rw[aag,aad lo];show (o[p]).toNat<n;simp[*]
theorem St.at (S:St n nd o D m T)(hc:c<n):∃p,p<n/\pl o p=c:=by
 have:(c:Int)∈o:=S.po.mem_iff.mpr (uZ.mpr ⟨by lia,by simp[*]⟩);obtain⟨p,hp,e⟩:=adL.mp this;refine⟨p,by rw[←S.ln];exact hp,?_⟩;unfold pl;rw[aag,aad hp];show (o[p]).toNat=c;simp[*]
def En (n nd:Nat)(T:Tb):List (List Int)->Prop
 | [a]=>∃c,c<n/\CB nd T c a=true
 | [a,b]=>∃c d,c<n/\d<n/\c≠d/\CB nd T c a=true/\CB nd T d b=true
 |_=>False
def dG (δ:List (List Int))(z:Nat):List (List Int):=(aax z).map (gW δ)
theorem qc {ps:List Nat}:p∈(aax n).filter (Ce nd T o g ps)↔p<n/\CB nd T (pl o p) g=true/\p∉ps:=by
 rw[abX,aaH];unfold Ce;simp
def TY:ba 4 u [x0,x1,x2,x3,x4,x5,x6]=.ok [x0,x1,x2,x3,some u,x5,x6]:=nr rfl
def jZ {ρ:Ev}{k:Ev->SR}:(SR.nx ρ).turn k=k ρ:=nr rfl
theorem Mf (S:St n nd o D m T)(hd:Du nd z δ):(En n nd T (dG δ z)/\∃e,cC [dQ nd D m,g8 δ]=.ok (.tup [.str "end",e]))\/(¬En n nd T (dG δ z)/\cC [dQ nd D m,g8 δ]=.ok .non):=by
 obtain⟨tU,ht,e⟩:=TX S hd;rw[e];have z0:0<z:=by rcases hd.z1 with e|e<;>omega
 obtain⟨a6,s0⟩:=Gu S ht hd z0 (ps:=[]) (by decide) (x0:=some (dQ nd D m)) (o5:=none) (o6:=none);have Ą:(aax n).filter _=[]->∀c,c<n->CB nd T c (gW δ 0)≠true:=λef c hc ha=>by
  obtain⟨p,hp,ep⟩:=S.at hc;have:=(qc).mpr ⟨hp,by rw[ep];exact ha,acJ⟩;rw[ef] at this;cases this
 rcases hd.z1 with rfl|rfl
 ·rw[show bu 0 1=[.int (0:Nat)] from rfl,dE,TY,ju,s0];cases ef:(aax n).filter _ with
  |nil=>exact .inr ⟨fun⟨c,hc,ha⟩=>Ą ef c hc ha,rfl⟩
  |cons q r=>
   have hq:=qc.mp (by rw[ef];exact aae);exact .inl ⟨⟨_,S.pl_lt hq.1,hq.2.1⟩,ah [q],by kernel_rfl⟩
 ·rw[show bu 0 2=[.int (0:Nat),.int (1:Nat)] from rfl,dE,TY,ju,s0];cases ef:(aax n).filter _ with
  |nil=>exact .inr ⟨fun⟨c,_,hc,_,_,ha,_⟩=>Ą ef c hc ha,rfl⟩
  |cons q r=>
   have hq:=qc.mp (by rw[ef];exact aae);obtain⟨b6,s1⟩:=Gu S ht hd (k:=1) (by decide) (ps:=[q]) (by rw[acj];decide);show (_/\∃e,Bh .S ((dO _ _ _ [some _,some _,some _,some (qU [q]),some _,some _,a6]).seq _)=_)\/(_/\Bh .S ((dO _ _ _ [some _,some _,some _,some (qU [q]),some _,some _,a6]).seq _)=_);rw[dE,TY,ju,s1];cases ef1:(aax n).filter _ with
   |nil=>
    refine .inr ⟨fun⟨c,d,hc,yx,ne,ha,hb⟩=>?_,rfl⟩;have no:∀p,p<n->p≠q->CB nd T (pl o p) _≠true:=λp hp nq h=>by
     have:=(qc).mpr ⟨hp,h,by rw[aau];exact nq⟩;rw[ef1] at this;cases this
    obtain⟨p1,hp1,e1⟩:=S.at yx;by_cases c1:p1=q
    ·subst c1;obtain⟨p0,hp0,e0⟩:=S.at hc;refine no p0 hp0 (λz=>ne (by rw[←e0,←e1,z])) (iJ.mpr λk hk t ht=>?_);rw[e0,iJ.mp ha k hk t ht,←iJ.mp hb k hk t ht,←e1,iJ.mp hq.2.1 k hk t ht]
    ·exact no p1 hp1 c1 (by rw[e1];exact hb)
   |cons q' r'=>
    have XS:=qc.mp (by rw[ef1];exact aae);refine .inl ⟨⟨_,_,S.pl_lt hq.1,S.pl_lt XS.1,λz=>?_,hq.2.1,XS.2.1⟩,ah [q,q'],by kernel_rfl⟩;have nq:q'≠q:=λy=>XS.2.2 (by rw[y];exact aae);have nd' :=S.po.symm.nodup (zX n);have l1:q<o.length:=by rw[S.ln];exact hq.1
    have l2:q'<o.length:=by rw[S.ln];exact XS.1
    unfold pl at z;rw[aag,aad l1,aag,aad l2] at z;have b1:=fc S.po _ (aaU l1);have b2:=fc S.po _ (aaU l2);have z:(o[q]).toNat=(o[q']).toNat:=z;have:o[q]=o[q']:=by lia
    exact nq ((List.getElem_inj nd').mp this).symm
end
def sel (T:Tb)(c:Nat)(v:Int):Tb:=λd=>(T d).filter λt=>t.getD c 0==v
def seen (nd:Nat)(T:Tb)(c:Nat):List Int:=(aax nd).flatMap λd=>(T d).map λt=>t.getD c 0
def Eo (nd:Nat)(T:Tb)(c:Nat):Bool:=(seen nd T c).all λv=>(aax nd).all λd=>(aax nd).all λe=>(sel T c v d).length==(sel T c v e).length
def wq (nd:Nat)(T:Tb)(c:Nat):Bool:=(seen nd T c).all λv=>(seen nd T c).all λw=>v==w
theorem kY {T:Tb}{v:Int}:v∈seen nd T c↔∃d,d<nd/\∃t∈T d,t.getD c 0=v:=by
 unfold seen;rw[abz];constructor
 ·rintro⟨d,hd,h⟩;obtain⟨t,ht,e⟩:=aan.mp h;exact⟨d,aaH.mp hd,t,ht,e⟩
 ·rintro⟨d,hd,t,ht,e⟩;exact⟨d,aaH.mpr hd,aan.mpr ⟨t,ht,e⟩⟩
theorem Q5 {l:List (List Int)}(ne:l≠[]):(aX l).length=1↔∀x∈l,∀y∈l,x=y:=by
 have mem:∀x,x∈aX l↔x∈l:=λx=>by
  grind[aX,cG,id]
 have nd:(aX l).Nodup:=lK _ _ ab1;constructor
 ·intro h x hx y hy;obtain⟨z,e⟩:=List.length_eq_one_iff.mp h;grind
 ·intro h;cases e:aX l with
  |nil=>
   obtain⟨x,hx⟩:=adV l ne;grind
  |cons x r=>
   cases r with
   |nil=>rfl
   |cons y r=>
    grind[aae,aai,absurd]
theorem O4 {a b D:Int}(ha:0<=a)(hb:0<=b)(hD:0<D)(h:TH (e_ a D)=TH (e_ b D)):a=b:=by
 have:e_ a D=e_ b D:=by
  injection h with h1 h2
  injection h2 with h2 _
  exact Prod.ext h1 h2
 rw[←Ek ha hD,←Ek hb hD,this]
section
variable {D:Int}{m:Fs}{T:Tb}
def Mg (r:List Int)(p:Nat):aJ r [(p:Int)]=[r.getD p 0]:=rfl
theorem St.pt (S:St n nd o D m T)(hp:p<n)(v:Int):gr nd o (m.filter (wQ [(p:Int)] [v])) (sel T (pl o p) v):=by
 have:=S.r.filt λr=>decide (aJ r [(p:Int)]=[v]);have e:(λd=>(T d).filter λt=>decide (aJ (aJ t o) [(p:Int)]=[v]))=sel T (pl o p) v:=by
  funext d;apply afU;intro t _;rw[Mg,wo (by rw[S.ln];exact hp)];(simp;lia)
 rw[←e];exact this
theorem St.keys (S:St n nd o D m T)(hp:p<n)(k:List Int):k∈m.map (lL [(p:Int)])↔∃v∈seen nd T (pl o p),k=[v]:=by
 have lo:p<o.length:=by rw[S.ln];exact hp
 rw[aan];constructor
 ·rintro⟨x,hx,rfl⟩;obtain⟨d,hd,h⟩:=S.r.p x hx;obtain⟨t,ht,e⟩:=S.r.pos S.nn hx hd h;exact⟨t.getD (pl o p) 0,kY.mpr ⟨d,hd,t,ht,rfl⟩,by unfold lL;rw[←e,Mg,wo lo]⟩
 ·rintro⟨v,hv,rfl⟩;obtain⟨d,hd,t,ht,e⟩:=kY.mp hv;obtain⟨x,hx,h1,_⟩:=S.r.mem hd ht;exact⟨x,hx,by unfold lL;rw[h1,Mg,wo lo,e]⟩
theorem St.kne (S:St n nd o D m T)(ps:List Int):m.map (lL ps)≠[]:=λe=>S.k.ne (List.map_eq_nil_iff.mp e)
def WE (m:Fs)(d:Nat):sD m d=sw m (λ_=>true) d:=rfl
theorem Q7 (S:St n nd o D m T)(hp:p<n){v:Int}(x:List Int)(hx:p9 n nd D (m.filter (wQ [(p:Int)] [v]))):qS nd D (x,m.filter (wQ [(p:Int)] [v]))=(aax nd).all λd=>(aax nd).all λe=>(sel T (pl o p) v d).length==(sel T (pl o p) v e).length:=by
 have r:=S.pt hp v;have e:∀d,d<nd->sD _ d=((sel T (pl o p) v d).length:Int):=λd hd=>by
  rw[WE,r.s _ d hd];unfold cn;rw[List.filter_eq_self.mpr λ_ _=>rfl]
 unfold qS;rw[abo,beq_iff_eq,aaK];have c:((cS nd D (m.filter (wQ [(p:Int)] [v])):Nat):Int)=1↔cS nd D (m.filter (wQ [(p:Int)] [v]))=1:=by lia
 rw[c];unfold cS;have n1:=S.k.n1;rw[Q5 (λz=>by
  simp_all)]
 constructor
 ·intro h d hd;refine aaK.mpr λd' MK=>?_;have hd:=aaH.mp hd;have MK:=aaH.mp MK;have:=h _ (aan.mpr ⟨d,aaH.mpr hd,rfl⟩) _ (aan.mpr ⟨d',aaH.mpr MK,rfl⟩);rw[e d hd,e d' MK] at this;have:=O4 (by lia) (by lia) hx.d0 this;lia
 ·intro h a ha b hb;obtain⟨d,hd,rfl⟩:=aan.mp ha;obtain⟨d',MK,rfl⟩:=aan.mp hb;rw[e d (aaH.mp hd),e d' (aaH.mp MK),eq_of_beq (aaK.mp (h d hd) d' MK)]
theorem YQ (hp:p<n):UD n [(p:Int)]:=⟨(by lia),(λi hi=>by simp_all),by simp⟩
theorem Q8 (S:St n nd o D m T)(hp:p<n):cJ [dQ nd D m,ah [(p:Int)]]=.ok (.bl (Eo nd T (pl o p))):=by
 rw[Mb S.k (YQ hp)];congr 2;rw[abo,aaK];unfold Eo;rw[aaK];constructor
 ·intro h v hv;have hk:[v]∈fX (aX _):=(aH _).mem_iff.mpr ((cG _ _ _).mpr (.inr ((S.keys hp _).mpr ⟨v,hv,rfl⟩)));have hx:([v],m.filter _)∈Lk m _:=aan.mpr ⟨[v],hk,rfl⟩;rw[←Q7 S hp [v] (Gj S.k _ hx)];exact h _ hx
 ·intro h x hx;have ok:=Gj S.k x hx;obtain⟨k,hk,rfl⟩:=aan.mp hx;rcases (cG _ _ _).mp ((aH _).mem_iff.mp hk) with z|z
  ·cases z
  ·obtain⟨v,hv,rfl⟩:=(S.keys hp k).mp z;rw[Q7 S hp [v] ok];exact h v hv
theorem Mh (S:St n nd o D m T)(hp:p<n):(Lk m [(p:Int)]).length=1↔wq nd T (pl o p)=true:=by
 unfold Lk;rw[aaa,(aH _).length_eq,Q5 (S.kne _)];unfold wq;rw[aaK];constructor
 ·intro h v hv;refine aaK.mpr λw hw=>?_;have:=h _ ((S.keys hp [v]).mpr ⟨v,hv,rfl⟩) _ ((S.keys hp [w]).mpr ⟨w,hw,rfl⟩);injection this with this
  rw[this];exact beq_self_eq_true _
 ·intro h x hx y hy;obtain⟨v,hv,rfl⟩:=(S.keys hp x).mp hx;obtain⟨w,hw,rfl⟩:=(S.keys hp y).mp hy;rw[eq_of_beq (aaK.mp (h v hv) w hw)]
theorem zY (S:St n nd o D m T)(hp:p<n)(h:Eo nd T (pl o p)=false\/wq nd T (pl o p)=true)(k:Nat)(ds ι Zu:U):bK (k+1) [dQ nd D m,.int (p:Nat),ds,ι,Zu]=.ok .non:=by
 have q:=Q8 S hp;have l1:(1:Nat)<=aaf:=by decide
 have r1:U.tup [.int (p:Nat)]=ah [(p:Int)]:=rfl;unfold bK;rw[eJ];by_cases c:Eo nd T (pl o p)=true
 ·have c2:wq nd T (pl o p)=true:=by
   rcases h with h|h
   ·rw[h] at c;cases c
   ·exact h
  have lo:=zW S.k (YQ hp);have ll:=(Mh S hp).mpr c2;have le:gy [wg nd D (Lk m [(p:Int)])]=.ok (.int (1:Nat)):=by unfold wg;rw[y_,aaa,ll]
  rw[c] at q;simp only[Pzz,gz,l1,r1,q,lo,le,id_eq];rfl
 ·rw[ac_] at c;rw[c] at q;simp only[Pzz,gz,l1,r1,q]
end
section
variable {D:Int}{m:Fs}{T:Tb}
def WG (r:List U->R U):Ev->SR:=aD (bg 9 (eo 4 r (af (ag 8) (af (ag 2) (af (ag 3) (af (aR qz (ag 4) (zqc 1)) aq))))))
 (aD (j_ (gB (aR (l_ id) (ag 9) (gC .non))) (bx (gC .non)) bU)
 (jW (gM "list" 6 eZ (af (bQ (yqa 7 9)) aq))))
theorem WH (k:Nat):eJ (k+1)=aD (j_ (Jh (gB (eo 2 cJ (af (ag 0) (af (bQ (b1x 1)) aq))))) (bx (gC .non)) bU)
 (aD (bg 5 (eo 2 cB (af (ag 0) (af (bQ (b1x 1)) aq))))
 (aD (j_ (gB (aR (je id) (fi gy (b1x 5)) (zqc 1))) (bx (gC .non)) bU)
 (aD (bg 6 (i_ aq))
 (aD (iu (cP (ag 5)) (bL 2 (ay (ba 7) (ay (ba 8) bT))) (WG (aF k)))
 (bx (bQ (af (gC (.str "look")) (af (bQ (b1x 1)) (af (fi bJ (b1x 6)) aq))))))))):=by
 rfl
def XF (r:List U->R U):Ev->SR:=aD (bg 4 (eo 5 r (af (ag 0) (af (ag 5) (af (ag 1) (yqa 2 3)))))) (j_ (gB (aR (l_ not) (ag 4) (gC .non))) (bx (ag 4)) bU)
def WI (r:List U->R U):Ev->SR:=aD (bg 4 (eo 5 r (af (ag 0) (af (ag 6) (af (ag 1) (yqa 2 3)))))) (j_ (gB (aR (l_ not) (ag 4) (gC .non))) (bx (ag 4)) bU)
theorem Cf (k:Nat):eK (k+1)=aD (bg 4 (eo 2 cC (yqa 0 1)))
 (aD (j_ (Vn (gB (aR (l_ not) (ag 4) (gC .non))) (gB (aR (je id) (ag 3) (zqc 0)))) (bx (ag 4)) bU)
 (aD (iu (gG (af (fi gy (af (aR dq (zqb 0 0) (zqc 0)) aq)) aq)) (ba 5) (XF (bK k)))
 (aD (j_ (gB (aR (je id) (ag 3) (zqc 1))) (bx (gC .non)) bU)
 (aD (iu (cP (ag 2)) (ba 6) (WI (bF k)))
 (bx (gC .non)))))):=by
 rfl
def Ep:rJ (.tup us)=false:=nr rfl
def tQ:rJ .non=true:=nr rfl
theorem WJ (k:Nat):gN (k+1)=aD (bg 5 (eo 4 (aF k) (af (eo 2 cA (yqa 0 1)) (af (ag 2) (af (ag 3) (af (aR qz (ag 4) (zqc 1)) aq))))))
 (bx (Xs (gB (aR (l_ id) (ag 5) (gC .non))) (gC .non) (bQ (af (gC (.str "mix")) (yqa 1 5))))):=by
 rfl
def NT (u:U):Prop:=u=.non\/∃us,u=.tup us
theorem O5 (h:NT u):rJ u=true↔u=.non:=by
 rcases h with rfl|⟨us,rfl⟩
 ·exact⟨λ_=>rfl,λ_=>tQ⟩
 ·exact⟨(λz=>by cases z),λz=>by cases z⟩
theorem Er {st Zu:U}(h:cC [st,ds]=.ok (.tup us))(k:Nat):aF (k+1) [st,ds,ι,Zu]=.ok (.tup us):=by
 unfold aF;rw[Cf];simp only[Pzz,gz,h,Ep]
theorem O6 {st:U}(h:cC [st,ds]=.ok .non)(k:Nat):aF (k+1) [st,ds,ι,.int 0]=.ok .non:=by
 unfold aF;rw[Cf];simp only[Pzz,gz,h,tQ,beq_self_eq_true,id_eq]
def YR (nd:Nat)(T:Tb)(c:Nat):Prop:=Eo nd T c=false\/wq nd T c=true
def eC (m:Fs)(p:Nat):List (List Int):=fX (aX (m.map (lL [(p:Int)])))
def Es (nd:Nat)(T:Tb)(c:Nat):Bool:=Eo nd T c && !(wq nd T c)
theorem jI (S:St n nd o D m T)(hp:p<n){k:List Int}:k∈eC m p↔∃v∈seen nd T (pl o p),k=[v]:=by
 unfold eC;rw[(aH _).mem_iff];unfold aX;rw[cG,S.keys hp];exact⟨λh=>h.elim (λz=>by cases z) id,.inr⟩
theorem Cg (S:St n nd o D m T)(hp:p<n){d:Int}{f:Int->U}(hf:Eo nd T (pl o p)=true->∀v∈seen nd T (pl o p),aF k [dQ nd D (m.filter (wQ [(p:Int)] [v])),ds,ι,.int (d-1)]=.ok (f v)/\NT (f v)) :
  (Es nd T (pl o p)=true/\(∀v∈seen nd T (pl o p),f v≠.non)/\bK (k+1) [dQ nd D m,.int (p:Nat),ds,ι,.int d]=.ok (.tup [.str "look",.tup [.int (p:Nat)],.tup ((eC m p).map λq=>.tup [ah q,f (q.getD 0 0)])])) \/
  (¬(Es nd T (pl o p)=true/\∀v∈seen nd T (pl o p),f v≠.non)/\bK (k+1) [dQ nd D m,.int (p:Nat),ds,ι,.int d]=.ok .non):=by
 by_cases c:YR nd T (pl o p)
 ·right;refine⟨λh=>?_,zY S hp c k ds ι (.int d)⟩;have:=h.1;unfold Es at this;rw[aaC] at this;rcases c with c|c
  ·rw[c] at this;cases this.1
  ·rw[c] at this;cases this.2
 have hq:Eo nd T (pl o p)=true:=by
  cases z:Eo nd T (pl o p) with
  |true=>rfl
  |false=>exact absurd (.inl z) c
 have hc:wq nd T (pl o p)=false:=by
  cases z:wq nd T (pl o p) with
  |false=>rfl
  |true=>exact absurd (.inr z) c
 have sz:aaf=16777216:=rfl;have q:=Q8 S hp;rw[hq] at q;have lo:=zW S.k (YQ hp);have kl:=wj (ps:=[(p:Int)]) S.k;have Kl:(eC m p).length<=60:=by unfold eC;rw[(aH _).length_eq];exact kl
 have LK:Lk m _=(eC m p).map _:=rfl;have L1:(eC m p).length≠1:=λz=>by
  have:=(Mh S hp).mp (by rw[LK,aaa];exact z);rw[this] at hc;cases hc
 have le:gy [wg nd D (Lk m [(p:Int)])]=.ok (.int ((eC m p).length:Nat)):=by unfold wg;rw[y_,aaa,LK,aaa]
 have ne:((((eC m p).length:Nat):Int)==1)=false:=by rw[beq_eq_false_iff_ne];lia
 have sb:∀ρ,jc (wg nd D (Lk m [(p:Int)])) ρ=.ok _:=λρ=>rfl;have ls:(0:Nat)<=aaf/\(1:Nat)<=aaf/\(2:Nat)<=aaf/\(3:Nat)<=aaf:=by decide
 have r1:U.tup [.int (p:Nat)]=ah [(p:Int)]:=rfl;have run:∀X,dO (bL 2 (ay (ba 7) (ay (ba 8) bT))) (WG (aF k)) ((Lk m [(p:Int)]).map (UE nd D)) [some (dQ nd D m),some (.int (p:Nat)),some ds,some ι,some (.int d),some (wg nd D (Lk m [(p:Int)])),some (.lst []),none,none,none]=X->
   bK (k+1) [dQ nd D m,.int (p:Nat),ds,ι,.int d]=Bh .S (X.seq (bx (bQ (af (gC (.str "look")) (af (bQ (b1x 1)) (af (fi bJ (b1x 6)) aq)))))):=λX hX=>by
  unfold bK;rw[WH];simp only[Pzz,gz,ls,r1,q,lo,le,id_eq,ne,sb,hX]
 rcases wm (b:=0) (us:=(Lk m _).map (UE nd D)) (sg:=bL 2 (ay (ba 7) (ay (ba 8) bT))) (s:=WG (aF k))
  (λi ρ=>(∃a7 a8 a9:Option U,ρ=[some (dQ nd D m),some (.int (p:Nat)),some ds,some ι,some (.int d),some (wg nd D (Lk m [(p:Int)])),some (.lst (((eC m p).take i).map λq=>.tup [ah q,f (q.getD 0 0)])),a7,a8,a9])/\∀q∈(eC m p).take i,f (q.getD 0 0)≠.non)
  (∃v∈seen nd T (pl o p),f v=.non) .non (λi u ρ hu ⟨⟨a7,a8,a9,hr⟩,Γ⟩=>by
   subst hr;rw[abw] at Γ ⊢;have hi:=by have:=(aap.mp hu).1;rwa [aaa,LK,aaa] at this
   obtain⟨v,hv,ev⟩:=(jI S hp).mp (aaU hi);have Px:u=.tup [ah [v],dQ nd D (m.filter (wQ [(p:Int)] [v]))]:=by
    rw[LK,aat,aar,aad hi,ev] at hu;injection hu with hu;exact hu.symm
   subst Px;obtain⟨e,nt⟩:=hf hq v hv;refine⟨_,B5,?_⟩;have tk:(eC m p).take (i+1)=(eC m p).take i++[[v]]:=by rw[aaO hi,ev]
   rcases nt with nt|⟨us,nt⟩
   ·right;refine⟨⟨v,hv,nt⟩,[some (dQ nd D m),some (.int (p:Nat)),some ds,some ι,some (.int d),some (wg nd D (Lk m [(p:Int)])),some (.lst (((eC m p).take i).map λq=>.tup [ah q,f (q.getD 0 0)])),some (ah [v]),some (dQ nd D (m.filter (wQ [(p:Int)] [v]))),some .non],?_⟩;rw[nt] at e;unfold WG;simp only[Pzz,e,tQ,id_eq]
   ·left;have zl:(((eC m p).take i).map λq=>U.tup [ah q,f (q.getD 0 0)]).length<aaf:=by rw[aaa,aa2];grind
    refine⟨[some _,some _,some ds,some ι,some (.int d),some _,some _,some (ah [v]),some (dQ nd D (m.filter (wQ [(p:Int)] [v]))),some (f v)],?_,⟨_,_,_,rfl⟩,λq Rr=>?_⟩
    ·rw[tk,aaD];show _=SR.nx [some _,some _,some ds,some ι,some (.int d),some _,some (.lst ((((eC m p).take i).map _)++[.tup [ah [v],f v]])),some _,some _,some (f v)];rw[nt] at e ⊢;unfold WG;simp only[Pzz,e,Ep,id_eq,ls,j8,zl]
    ·rw[tk] at Rr;rcases aaQ.mp Rr with z|z
     ·exact Γ q z
     ·rw[aau.mp z];show f v≠.non;rw[nt];intro y;cases y) ⟨⟨none,none,none,rfl⟩,λq hq=>by cases hq⟩ with⟨ε,e,⟨a7,a8,a9,rfl⟩,Γ⟩|⟨⟨v,hv,z⟩,ε,e⟩
 ·left;rw[abw,aaa,LK,aaa,abj] at Γ e;refine⟨by unfold Es;rw[hq,hc];rfl,λv hv=>Γ [v] ((jI S hp).mpr ⟨v,hv,rfl⟩),?_⟩;rw[run _ e];have zw:((eC m p).map λq=>U.tup [ah q,f (q.getD 0 0)]).length<=aaf:=by rw[aaa];lia
  rfl
 ·right;refine⟨λh=>h.2 v hv z,?_⟩;rw[run _ e];rfl
theorem Ci (S:St n nd o D m T){ms:List U}{d:Int}(hd:d=1\/d=2)(hr:cC [dQ nd D m,ds]=.ok .non){L:Nat->U}(hL:∀p,p<n->bK k [dQ nd D m,.int (p:Nat),ds,.tup ms,.int d]=.ok (L p)/\NT (L p)){M:U->U}(hM:d=2->∀s∈ms,bF k [dQ nd D m,s,ds,.tup ms,.int d]=.ok (M s)/\NT (M s)) :
  ∃u,aF (k+1) [dQ nd D m,ds,.tup ms,.int d]=.ok u/\((∃p,p<n/\L p=u/\u≠.non)\/((∀p,p<n->L p=.non)/\((d=1/\u=.non)\/(d=2/\((∃s∈ms,M s=u/\u≠.non)\/((∀s∈ms,M s=.non)/\u=.non)))))):=by
 have n8:=S.n8;obtain⟨q,h1,h2,h3⟩:=S.hd;have rg:∀ρ,sZ _ ρ=.ok _:=λρ=>gI n (by lia);have ne:(d==0)=false:=by lia
 rcases qb (b:=0) (sg:=ba 5) (s:=XF (bK k))
  (λi ρ=>(∃o5,ρ=[some (dQ nd D m),some ds,some (.tup ms),some (.int d),some .non,o5,none])/\∀p,p<i->p<n->L p=.non) (λu=>∃p,p<n/\L p=u/\u≠.non) (λi u ρ hu ⟨⟨o5,hr⟩,Γ⟩=>by
   subst hr;have hi:i<n:=by have:=(aap.mp hu).1;rwa [aaa,aaJ] at this
   rw[aar,abh hi] at hu;obtain rfl:U.int (i:Nat)=u:=by injection hu
   obtain⟨l,nt⟩:=hL i hi;refine⟨[some _,some ds,some (.tup ms),some (.int d),some .non,some _,none],rfl,?_⟩;rcases nt with nt|⟨us,nt⟩
   ·left;rw[nt] at l;refine⟨[some _,some ds,some (.tup ms),some (.int d),some .non,some (.int (i:Nat)),none],?_,⟨_,rfl⟩,λp hp hn=>?_⟩
    ·unfold XF;simp only[Pzz,l,tQ]
    grind
   ·right;rw[nt] at l;refine⟨.tup us,[some (dQ nd D m),some ds,some (.tup ms),some (.int d),some (.tup us),some (.int (i:Nat)),none],⟨i,hi,nt,λz=>by cases z⟩,?_⟩;unfold XF;simp only[Pzz,l,Ep]) ⟨⟨none,rfl⟩,λp hp=>by lia⟩ with⟨ε,e,⟨o5,rfl⟩,Γ⟩|⟨u,ε,hu,e⟩
 ·rw[←iP] at e;have no:=λp hp=>Γ p (by rw[abw,aaa,aaJ];exact hp) hp;rcases hd with rfl|rfl
  ·refine⟨.non,?_,.inr ⟨no,.inl ⟨rfl,rfl⟩⟩⟩;unfold aF;rw[Cf];simp only[Pzz,gz,hr,tQ,ne,beq_self_eq_true,id_eq,h1,h2,h3,rg,e]
  ·have Zc:((2:Int)==1)=false:=by decide
   have run:∀X,dO (ba 6) (WI (bF k)) ms [some (dQ nd D m),some ds,some (.tup ms),some (.int 2),some .non,o5,none]=X->aF (k+1) [dQ nd D m,ds,.tup ms,.int 2]=Bh .S (X.seq (bx (gC .non))):=λX hX=>by
    unfold aF;simp_all[Cf,Pzz,gz,tQ,id_eq,hX]
   rcases qb (b:=0) (sg:=ba 6) (s:=WI (bF k))
    (λi ρ=>(∃o6,ρ=[some (dQ nd D m),some ds,some (.tup ms),some (.int 2),some .non,o5,o6])/\∀s∈ms.take i,M s=.non) (λu=>∃s∈ms,M s=u/\u≠.non) (λi u ρ hu ⟨⟨o6,hr⟩,Γ⟩=>by
     subst hr;rw[abw] at Γ ⊢;have hm:=abq hu;obtain⟨l,nt⟩:=hM rfl u hm;refine⟨[some _,some ds,some (.tup ms),some (.int 2),some .non,o5,some u],rfl,?_⟩;rcases nt with nt|⟨us,nt⟩
     ·left;rw[nt] at l;refine⟨[some _,some ds,some (.tup ms),some (.int 2),some .non,o5,some u],?_,⟨_,rfl⟩,λs hs=>?_⟩
      ·unfold WI;simp only[Pzz,l,tQ]
      ·rw[List.take_succ,hu] at hs;rcases aaQ.mp hs with z|z
       ·exact Γ s z
       ·rw[aau.mp z];exact nt
     ·right;rw[nt] at l;refine⟨.tup us,[some (dQ nd D m),some ds,some (.tup ms),some (.int 2),some (.tup us),o5,some u],⟨u,hm,nt,λz=>by cases z⟩,?_⟩;unfold WI;simp only[Pzz,l,Ep]) ⟨⟨none,rfl⟩,λs hs=>by cases hs⟩ with⟨ε,e2,⟨o6,rfl⟩,Ö⟩|⟨u,ε,hu,e2⟩
   ·rw[abw,abj] at Ö;exact⟨.non,(run _ e2).trans rfl,.inr ⟨no,.inr ⟨rfl,.inr ⟨Ö,rfl⟩⟩⟩⟩
   ·exact⟨u,(run _ e2).trans rfl,.inr ⟨no,.inr ⟨rfl,.inl hu⟩⟩⟩
 ·rw[←iP] at e;refine⟨u,?_,.inl hu⟩;unfold aF;rw[Cf];simp only[Pzz,gz,hr,tQ,ne,id_eq,h1,h2,h3,rg,e]
theorem Gv {st cN sh:U}(h1:cA [st,sh]=.ok cN)(hu:NT u)(h2:aF k [cN,ds,ι,.int 1]=.ok u):(u=.non/\bF (k+1) [st,sh,ds,ι,.int 2]=.ok .non)\/(u≠.non/\bF (k+1) [st,sh,ds,ι,.int 2]=.ok (.tup [.str "mix",sh,u])):=by
 have l3:(3:Nat)<=aaf:=by decide
 unfold bF;rw[WJ];rcases hu with rfl|⟨us,rfl⟩
 ·exact .inl ⟨rfl,by simp only[Pzz,gz,h1,Int.reduceSub,h2,tQ,id_eq]⟩
 simp_all[Pzz,gz,Int.reduceSub,Ep,id_eq]
end
def Tm (T:Tb)(ss:List (List Int)):Tb:=λd=>ss.flatMap λs=>(T d).map λt=>aJ t s
def C1 (n nd:Nat)(cs:List (List Int))(T:Tb):Prop:=En n nd T cs\/∃c,c<n/\Es nd T c=true/\∀v∈seen nd T c,En n nd (sel T c v) cs
def C2 (n nd:Nat)(cs:List (List Int))(ms:List (List (List Int)))(T:Tb):Prop:=En n nd T cs\/(∃c,c<n/\Es nd T c=true/\∀v∈seen nd T c,C1 n nd cs (sel T c v))\/∃ss∈ms,C1 n nd cs (Tm T ss)
def Et (u:U):Prop:=∃e,u=.tup [.str "end",e]
def UG (u:U):Prop:=∃(p:Nat) (ks:List (List Int)) (f:List Int->U),u=.tup [.str "look",.tup [.int (p:Nat)],.tup (ks.map λq=>.tup [ah q,f q])]/\ks≠[]/\ks.length<=60/\∀q∈ks,Et (f q)
section
variable {D:Int}{m:Fs}{T:Tb}
theorem St.part (S:St n nd o D m T)(hp:p<n)(hq:Eo nd T (pl o p)=true){v:Int}(hv:v∈seen nd T (pl o p)):St n nd o D (m.filter (wQ [(p:Int)] [v])) (sel T (pl o p) v):=by
 have hk:=(jI S hp).mpr ⟨v,hv,rfl⟩;refine⟨Gj S.k ([v],_) (aan.mpr ⟨[v],hk,rfl⟩),S.po,S.n8,S.pt hp v,λd hd e=>?_⟩;obtain⟨d1,MF,t,ht,et⟩:=kY.mp hv;have l1:0<(sel T (pl o p) v d1).length:=aet (abX.mpr ⟨ht,by rw[et];exact beq_self_eq_true _⟩);have a:=eq_of_beq (aaK.mp (aaK.mp (aaK.mp hq v hv) d (aaH.mpr hd)) d1 (aaH.mpr MF));rw[e,abH] at a;simp_all
theorem W0 (S:St n nd o D m T)(hd:Du nd z δ)(k:Nat)(ι:U):∃u,aF (k+1) [dQ nd D m,g8 δ,ι,.int 0]=.ok u/\((En n nd T (dG δ z)/\Et u)\/(¬En n nd T (dG δ z)/\u=.non)):=by
 rcases Mf S hd with⟨h,e,r⟩|⟨h,r⟩
 ·exact⟨_,Er r k,.inl ⟨h,e,rfl⟩⟩
 ·exact⟨_,O6 r k,.inr ⟨h,rfl⟩⟩
theorem Q9 {P:Int->U->Prop}{l:List Int}(h:∀v∈l,∃u,P v u):∃f:Int->U,∀v∈l,P v (f v):=by
 exact⟨λv=>if c:v∈l then aeY (h v c) else default,λv c=>by dsimp only;rw[dif_pos c];exact adu (h v c)⟩
theorem Et.nt (h:Et u):NT u/\u≠.non:=by
 obtain⟨e,rfl⟩:=h;exact⟨.inr ⟨_,rfl⟩,λz=>by cases z⟩
theorem Gw (S:St n nd o D m T)(hp:p<n):eC m p≠[]:=λe=>by
 obtain⟨x,hx⟩:=adV _ (S.kne _);obtain⟨v,hv,_⟩:=(S.keys hp x).mp hx;have:=(jI S hp).mpr ⟨v,hv,rfl⟩;rw[e] at this;cases this
theorem WK (S:St n nd o D m T)(hd:Du nd z δ)(hp:p<n)(k:Nat)(ι:U):∃u,bK (k+2) [dQ nd D m,.int (p:Nat),g8 δ,ι,.int 1]=.ok u/\((Es nd T (pl o p)=true/\(∀v∈seen nd T (pl o p),En n nd (sel T (pl o p) v) (dG δ z))/\UG u)\/(¬(Es nd T (pl o p)=true/\∀v∈seen nd T (pl o p),En n nd (sel T (pl o p) v) (dG δ z))/\u=.non)):=by
 by_cases hq:Eo nd T (pl o p)=true
 ·obtain⟨f,hf⟩:=Q9 λv hv=>W0 (S.part hp hq hv) hd k ι;have en:∀v∈seen nd T (pl o p),(f v≠.non↔En n nd _ _):=λv hv=>by
   rcases (hf v hv).2 with⟨a,b⟩|⟨a,b⟩
   ·exact⟨λ_=>a,λ_=>b.nt.2⟩
   ·exact⟨λy=>absurd b y,λy=>absurd y a⟩
  rcases Cg S hp (d:=1) λ_ v hv=>⟨(hf v hv).1,by
   rcases (hf v hv).2 with⟨_,b⟩|⟨_,b⟩
   ·exact b.nt.1
   ·exact .inl b⟩ with⟨h1,h2,r⟩|⟨h1,r⟩
  ·refine⟨_,r,.inl ⟨h1,λv hv=>(en v hv).mp (h2 v hv),p,eC m p,λq=>f _,rfl,Gw S hp,?_,λq Rr=>?_⟩⟩
   ·have:=wj (ps:=[(p:Int)]) S.k;unfold eC;rw[(aH _).length_eq];exact this
   ·obtain⟨v,hv,rfl⟩:=(jI S hp).mp Rr;rcases (hf v hv).2 with⟨_,b⟩|⟨_,b⟩
    ·exact b
    ·exact absurd b (h2 v hv)
  ·exact⟨_,r,.inr ⟨fun⟨a,b⟩=>h1 ⟨a,λv hv=>(en v hv).mpr (b v hv)⟩,rfl⟩⟩
 ·rw[ac_] at hq;refine⟨_,zY S hp (.inl hq) (k+1) _ ι (.int 1),.inr ⟨fun⟨a,_⟩=>?_,rfl⟩⟩;unfold Es at a;rw[hq] at a;cases a
theorem UG.nt (h:UG u):NT u/\u≠.non:=by
 obtain⟨p,ks,f,rfl,_⟩:=h;exact⟨.inr ⟨_,rfl⟩,λz=>by cases z⟩
theorem W1 (S:St n nd o D m T)(hd:Du nd z δ)(k:Nat)(ms:List U):∃u,aF (k+3) [dQ nd D m,g8 δ,.tup ms,.int 1]=.ok u/\((En n nd T (dG δ z)/\Et u)\/(¬En n nd T (dG δ z)/\C1 n nd (dG δ z) T/\UG u)\/(¬C1 n nd (dG δ z) T/\u=.non)):=by
 rcases Mf S hd with⟨h,e,r⟩|⟨h,r⟩
 ·exact⟨_,Er r (k+2),.inl ⟨h,e,rfl⟩⟩
 ·obtain⟨L,hL⟩:=TU λp hp=>WK S hd hp k (.tup ms);obtain⟨u,e,w⟩:=Ci S (.inl rfl) r (λp hp=>⟨(hL p hp).1,by
   rcases (hL p hp).2 with⟨_,_,b⟩|⟨_,b⟩
   ·exact b.nt.1
   ·exact .inl b⟩) (M:=λ_=>.non) λy=>by lia
  refine⟨u,e,.inr ?_⟩;rcases w with⟨p,hp,rfl,nn⟩|⟨no,w⟩
  ·rcases (hL p hp).2 with⟨a,b,c⟩|⟨_,b⟩
   ·exact .inl ⟨h,.inr ⟨_,S.pl_lt hp,a,b⟩,c⟩
   ·exact absurd b nn
  ·have hu:u=.non:=by
    rcases w with⟨_,y⟩|⟨y,_⟩
    ·exact y
    ·lia
   refine .inr ⟨λy=>?_,hu⟩;rcases y with y|⟨c,hc,a,b⟩
   ·exact h y
   ·obtain⟨p,hp,rfl⟩:=S.at hc;rcases (hL p hp).2 with⟨_,_,q⟩|⟨q,_⟩
    ·exact q.nt.2 (no p hp)
    ·exact q ⟨a,b⟩
end
def YS:(ab5 "end"==ab5 "end")=true/\(ab5 "mix"==ab5 "end")=false/\(ab5 "mix"==ab5 "mix")=true/\(ab5 "look"==ab5 "end")=false/\(ab5 "look"==ab5 "mix")=false/\(ab5 "look"==ab5 "look")=true:=by decide
def Mi (k:Nat):cZ .S 4 (fq k)=aW k:=rfl
theorem zZ (h:Et u)(ι:U)(k:Nat):aW (k+1) [u,ι]=.ok (.int 0):=by
 obtain⟨e,rfl⟩:=h;rfl
theorem Mj:∀(l:List Int) (m:Int),(m=0\/m=1)->(∀x∈l,x=0\/x=1)->s9 m l=if m=1\/1∈l then 1 else 0
 | [],m,h,_=>by
  show m=_;rcases h with rfl|rfl
  ·rw[hV (by simp)]
  ·rw[hZ (.inl rfl)]
 |x::l,m,h,hl=>by
  have hx:=hl x aae;have ih:=Mj l (if m<x then x else m) (by split;exact hx;exact h) λy hy=>hl y (aai _ hy);show s9 _ l=_;rw[ih];rcases h with rfl|rfl<;>rcases hx with rfl|rfl<;>simp
theorem Cj {ks:List (List Int)}{f:List Int->U}{e:List Int->Int}(ne:ks≠[])(ln:ks.length<=60)(he:∀q∈ks,aW k [f q,ι]=.ok (.int (e q))/\(e q=0\/e q=1)) :
  aW (k+1) [.tup [.str "look",.tup [.int (p:Nat)],.tup (ks.map λq=>.tup [ah q,f q])],ι]=.ok (.int (if ∃q∈ks,e q=1 then 2 else 1)):=by
 have sz:aaf=16777216:=rfl;have sb:∀ρ,jc (.tup (ks.map λq=>U.tup [ah q,f q])) ρ=.ok _:=λρ=>rfl;have sb2:∀ρ,jc (.lst (ks.map f)) ρ=.ok _:=λρ=>rfl;have e1:=bz (f:=nI [none] (ba 0) bO (zqb 0 1) [some (.tup [.str "look",.tup [.int (p:Nat)],.tup (ks.map λq=>.tup [ah q,f q])]),some ι,none,none]) (c:=λq=>U.tup [ah q,f q]) (g:=f) (xs:=ks) λq _=>by rfl
 have e2:=bz (f:=nI [none,some 1] (ba 0) bO (eo 2 (aW k) (yqa 0 1)) [some (.tup [.str "look",.tup [.int (p:Nat)],.tup (ks.map λq=>.tup [ah q,f q])]),some ι,some (.lst (ks.map f)),none]) (c:=f) (g:=λq=>U.int (e q)) (xs:=ks) λq hq=>by simp only[Pzz,(he q hq).1]
 have z1:(ks.map f).length<=aaf:=by rw[aaa];lia
 have z2:(ks.map λq=>U.int (e q)).length<=aaf:=by rw[aaa];simp_all
 have e3:An id .non (.lst (ks.map λq=>U.int (e q)))=.ok (.bl false):=by
  rw[TV (by rfl) (kX (λ_=>by rfl) ks) (λd hd=>by
   obtain⟨_,_,rfl⟩:=aan.mp hd;unfold fj;lia)]
  congr 2;rw[id_eq,List.any_map,List.any_eq_false];intro x _;exact aaB
 have e4:yk [.lst (ks.map λq=>U.int (e q))]=.ok (.int (if ∃q∈ks,e q=1 then 1 else 0)):=by
  have:ks.map (λq=>U.int (e q))=(ks.map e).map U.int:=by rw[aat];rfl
  unfold yk;dsimp only;rw[this,kR];cases ks with
  |nil=>exact absurd rfl ne
  |cons x xs=>
   rw[aal];dsimp only;rw[Mj _ _ (he x aae).2 λy hy=>by
    obtain⟨q,hq,rfl⟩:=aan.mp hy;exact (he q (aai _ hq)).2]
   have Ċ:(e x=1\/(1:Int)∈xs.map e)↔∃q∈x::xs,e q=1:=by simp
   by_cases c:∃q∈x::xs,e q=1
   ·rw[hZ c,hZ (Ċ.mpr c)]
   ·rw[hV c,hV λy=>c (Ċ.mp y)]
 have b1:(((1:Nat):Int)==1)=true:=by decide
 rw[aW,fq,Mi];simp only[Pzz,gz,YS,id_eq,b1,e1,e2,e3,e4];split<;>rfl
theorem Eu (h:UG u)(ι:U)(k:Nat):aW (k+2) [u,ι]=.ok (.int 1):=by
 obtain⟨p,ks,f,rfl,ne,ln,he⟩:=h;rw[Cj ne ln λq hq=>⟨zZ (he q hq) ι k,.inl rfl⟩];rw[hV fun⟨q,_,z⟩=>by cases z]
theorem z6 (r:List Int):l9 (ah r)=some (.tup (r.map .int)):=by unfold ah l9;rw[mY];rfl
theorem Gx (r:List Int):fj (.tup (r.map .int))<=1:=by unfold fj;rw[uY];lia
def SD (ss:List (List Int)):L2.D:=.tup (ss.map λr=>.tup (r.map .int))
theorem Ml (ss:List (List Int)):l9 (SU ss)=some (SD ss):=by unfold SU l9;rw[kX z6];rfl
theorem TZ (ss:List (List Int)):fj (SD ss)<=2:=by
 unfold SD fj;have:=we Gx ss;simp[*]
theorem O7 (h:ss∈ms):An id (SU ss) (.tup (ms.map SU))=.ok (.bl true):=by
 rw[TN (Ml ss) (kX Ml ms) (λd hd=>by
  obtain⟨x,_,rfl⟩:=aan.mp hd;have:=TZ x;lia)]
 congr 2;exact adW.mpr ⟨SD ss,aan.mpr ⟨ss,h,rfl⟩,oQ _⟩
theorem O8 (h:UG u)(hi:ss∈ms)(k:Nat):aW (k+3) [.tup [.str "mix",SU ss,u],.tup (ms.map SU)]=.ok (.int 2):=by
 have e:=Eu h (.tup (ms.map SU)) k;have im:=O7 hi;have l1:(1:Nat)<=aaf:=by decide
 have sb:∀ρ,jc (.lst [u]) ρ=.ok ([u],ρ):=λρ=>rfl;have e2:G_ (nI [none,some 1] (ba 0) bO (eo 2 (aW (k+2)) (yqa 0 1)) [some (.tup [.str "mix",SU ss,u]),some (.tup (ms.map SU)),some (.lst [u]),none]) [u]=.ok [.int 1]:=by
  have:=bz (f:=nI [none,some 1] (ba 0) bO (eo 2 (aW (k+2)) (yqa 0 1)) [some (.tup [.str "mix",SU ss,u]),some (.tup (ms.map SU)),some (.lst [u]),none]) (c:=id) (g:=λ_=>U.int 1) (xs:=[u]) λx hx=>by
   simp_all[aau,Pzz,id_eq]
  exact this
 have e3:An id .non (.lst [.int 1])=.ok (.bl false):=by kernel_rfl
 have e4:yk [.lst [.int 1]]=.ok (.int 1):=by kernel_rfl
 rw[aW,fq,Mi];simp only[Pzz,gz,YS,id_eq,im,l1,e2,e3,e4,Int.reduceAdd]
section
variable {D:Int}{m:Fs}{T:Tb}
theorem z7 {s:List Int}(hs:s∈ss)(so:bA n s)(hc:c<n)(h:CB nd (Tm T ss) c g=true):CB nd T (pl s c) g=true:=iJ.mpr λd hd t ht=>by
 have:=iJ.mp h d hd _ (abz.mpr ⟨s,hs,aan.mpr ⟨t,ht,rfl⟩⟩)
 rwa [wo (by rw[bR so];exact hc)] at this
theorem Ew {s:List Int}(so:bA n s)(hc:c<n):pl s c<n:=by
 have lo:c<s.length:=by rw[bR so];exact hc
 have:=fc so _ (aaU lo);unfold pl;rw[aag,aad lo];show (s[c]).toNat<n;simp[*]
theorem T2 {s:List Int}(so:bA n s)(hc:c<n)(hd:d<n)(h:pl s c=pl s d):c=d:=by
 have l1:c<s.length:=by rw[bR so];exact hc
 have l2:d<s.length:=by rw[bR so];exact hd
 unfold pl at h;rw[aag,aad l1,aag,aad l2] at h;have b1:=fc so _ (aaU l1);have b2:=fc so _ (aaU l2);have h:(s[c]).toNat=(s[d]).toNat:=h;have:s[c]=s[d]:=by (simp at *;lia)
 exact (List.getElem_inj (so.symm.nodup (zX n))).mp this
theorem T3 (l1:ss≠[])(so:∀s∈ss,bA n s):∀{cs:List (List Int)},En n nd (Tm T ss) cs->En n nd T cs:=by
 intro cs h;obtain⟨s,hs⟩:=adV ss l1;have o:=so s hs
 match cs,h with
 | [a],⟨c,hc,ha⟩=>exact⟨pl s c,Ew o hc,z7 hs o hc ha⟩
 | [a,b],⟨c,d,hc,hd,ne,ha,hb⟩=>exact⟨pl s c,pl s d,Ew o hc,Ew o hd,λy=>ne (T2 o hc hd y),z7 hs o hc ha,z7 hs o hd hb⟩
theorem WL (S:St n nd o D m T)(hd:Du nd z δ)(hp:p<n)(k:Nat)(ms:List U):∃u,bK (k+4) [dQ nd D m,.int (p:Nat),g8 δ,.tup ms,.int 2]=.ok u/\((Es nd T (pl o p)=true/\(∀v∈seen nd T (pl o p),C1 n nd (dG δ z) (sel T (pl o p) v))/\NT u/\u≠.non/\((∃v∈seen nd T (pl o p),¬En n nd (sel T (pl o p) v) (dG δ z))->∀k,aW (k+3) [u,.tup ms]=.ok (.int 2)))\/(¬(Es nd T (pl o p)=true/\∀v∈seen nd T (pl o p),C1 n nd (dG δ z) (sel T (pl o p) v))/\u=.non)):=by
 by_cases hq:Eo nd T (pl o p)=true
 ·obtain⟨f,hf⟩:=Q9 λv hv=>W1 (S.part hp hq hv) hd k ms;have nt:∀v∈seen nd T (pl o p),NT (f v):=λv hv=>by
   rcases (hf v hv).2 with⟨_,b⟩|⟨_,_,b⟩|⟨_,b⟩
   ·exact b.nt.1
   ·exact b.nt.1
   ·exact .inl b
  have en:∀v∈seen nd T (pl o p),(f v≠.non↔C1 n nd _ _):=λv hv=>by
   rcases (hf v hv).2 with⟨a,b⟩|⟨_,a,b⟩|⟨a,b⟩
   ·exact⟨λ_=>.inl a,λ_=>b.nt.2⟩
   ·exact⟨λ_=>a,λ_=>b.nt.2⟩
   ·exact⟨λy=>absurd b y,λy=>absurd y a⟩
  rcases Cg S hp (d:=2) λ_ v hv=>⟨(hf v hv).1,nt v hv⟩ with⟨h1,h2,r⟩|⟨h1,r⟩
  ·refine⟨_,r,.inl ⟨h1,λv hv=>(en v hv).mp (h2 v hv),.inr ⟨_,rfl⟩,(λy=>by cases y),fun⟨v,hv,nv⟩ k=>?_⟩⟩;have kl:(eC m p).length<=60:=by
    have:=wj (ps:=[(p:Int)]) S.k;unfold eC;rw[(aH _).length_eq];exact this
   have:∀q∈eC m p,∃x:Int,(aW (k+2) [f (q.getD 0 0),.tup ms]=.ok (.int x)/\(x=0\/x=1))/\(¬En n nd (sel T (pl o p) (q.getD 0 0)) _->x=1):=λq Rr=>by
    obtain⟨w,hw,rfl⟩:=(jI S hp).mp Rr;rcases (hf w hw).2 with⟨a,b⟩|⟨_,_,b⟩|⟨_,b⟩
    ·exact⟨0,⟨zZ b _ (k+1),.inl rfl⟩,λy=>absurd a y⟩
    ·exact⟨1,⟨Eu b _ k,.inr rfl⟩,λ_=>rfl⟩
    ·exact absurd b (h2 w hw)
   have ex:∃e:List Int->Int,∀q∈eC m p,(aW (k+2) [f (q.getD 0 0),.tup ms]=.ok (.int (e q))/\(e q=0\/e q=1))/\(¬En n nd (sel T (pl o p) (q.getD 0 0)) _->e q=1):=
    ⟨λq=>if c:q∈eC m p then aeY _ else 0,λq c=>by dsimp only;rw[dif_pos c];exact adu (this q c)⟩
   obtain⟨e,he⟩:=ex;have hk:=(jI S hp).mpr ⟨v,hv,rfl⟩;rw[Cj (Gw S hp) kl λq Rr=>(he q Rr).1,hZ ⟨[v],hk,(he [v] hk).2 nv⟩]
  ·exact⟨_,r,.inr ⟨fun⟨a,b⟩=>h1 ⟨a,λv hv=>(en v hv).mpr (b v hv)⟩,rfl⟩⟩
 ·rw[ac_] at hq;refine⟨_,zY S hp (.inl hq) (k+3) _ (.tup ms) (.int 2),.inr ⟨fun⟨a,_⟩=>?_,rfl⟩⟩;unfold Es at a;rw[hq] at a;cases a
theorem W2 (S:St n nd o D m T)(hd:Du nd z δ)(k:Nat){lf:List (List Int)->List (List Int)}(hs:∀ss∈ms,ss≠[]/\∀s∈ss,bA n s)(hm:∀ss∈ms,∃D' m',cA [dQ nd D m,SU (lf ss)]=.ok (dQ nd D' m')/\St n nd o D' m' (Tm T ss)) :
  ∃u,aF (k+5) [dQ nd D m,g8 δ,.tup ((ms.map lf).map SU),.int 2]=.ok u/\((En n nd T (dG δ z)/\Et u)\/(¬En n nd T (dG δ z)/\C2 n nd (dG δ z) ms T/\NT u/\u≠.non/\(¬C1 n nd (dG δ z) T->∀k,aW (k+3) [u,.tup ((ms.map lf).map SU)]=.ok (.int 2)))\/(¬C2 n nd (dG δ z) ms T/\u=.non)):=by
 rcases Mf S hd with⟨h,e,r⟩|⟨h,r⟩
 ·exact⟨_,Er r (k+4),.inl ⟨h,e,rfl⟩⟩
 ·obtain⟨L,hL⟩:=TU λp hp=>WL S hd hp k _;have mx:∀ss∈ms,∃u,bF (k+4) _=.ok u/\NT u/\((C1 n nd _ (Tm T ss)/\u≠.non/\∀k,aW (k+3) [u,.tup _]=.ok (.int 2))\/(¬C1 n nd _ (Tm T ss)/\u=.non)):=λss sQ=>by
   obtain⟨D',m',e,S'⟩:=hm ss sQ;obtain⟨u,w,c⟩:=W1 S' hd k ((ms.map lf).map SU);rcases c with⟨a,_⟩|⟨_,a,b⟩|⟨a,b⟩
   ·exact absurd (T3 (hs ss sQ).1 (hs ss sQ).2 a) h
   ·rcases Gv e b.nt.1 w with⟨y,_⟩|⟨_,q⟩
    ·exact absurd y b.nt.2
    ·exact⟨_,q,.inr ⟨_,rfl⟩,.inl ⟨a,(λy=>by cases y),λk=>O8 b (aan.mpr ⟨ss,sQ,rfl⟩) k⟩⟩
   ·rcases Gv e (.inl b) w with⟨_,q⟩|⟨y,_⟩
    ·exact⟨_,q,.inl rfl,.inr ⟨a,rfl⟩⟩
    ·exact absurd b y
  have ex:∃M:U->U,∀s∈(ms.map lf).map SU,∃ss∈ms,s=SU (lf ss)/\bF (k+4) [dQ nd D m,s,g8 δ,.tup ((ms.map lf).map SU),.int 2]=.ok (M s)/\NT (M s):=by
   refine⟨λs=>match bF (k+4) [dQ nd D m,s,g8 δ,.tup ((ms.map lf).map SU),.int 2] with|.ok u=>u|_=>.non,λs wX=>?_⟩;rw[aat] at wX;obtain⟨ss,sQ,rfl⟩:=aan.mp wX;obtain⟨u,e,nt,_⟩:=mx ss sQ;refine⟨ss,sQ,rfl,?_⟩;show bF (k+4) [dQ nd D m,SU (lf ss),g8 δ,.tup _,.int 2]=.ok (match bF (k+4) [dQ nd D m,SU (lf ss),g8 δ,.tup _,.int 2] with|.ok u=>u|_=>.non)/\NT (match bF (k+4) [dQ nd D m,SU (lf ss),g8 δ,.tup _,.int 2] with|.ok u=>u|_=>.non);rw[e];exact⟨rfl,nt⟩
  obtain⟨M,hM⟩:=ex;have same:∀ss∈ms,(C1 n nd _ (Tm T ss)/\M _≠.non/\∀k,aW (k+3) [M (SU (lf ss)),.tup _]=.ok (.int 2))\/(¬C1 n nd _ (Tm T ss)/\M _=.non):=λss sQ=>by
   obtain⟨u,e,_,w⟩:=mx ss sQ;obtain⟨_,_,_,e2,_⟩:=hM _ (aan.mpr ⟨lf ss,aan.mpr ⟨ss,sQ,rfl⟩,rfl⟩);rw[e] at e2;injection e2 with e2
   rw[←e2];exact w
  obtain⟨u,e,w⟩:=Ci S (.inr rfl) r (λp hp=>⟨(hL p hp).1,by
   rcases (hL p hp).2 with⟨_,_,b,_⟩|⟨_,b⟩
   ·exact b
   ·exact .inl b⟩) λ_ s wX=>by
    obtain⟨_,_,_,a,b⟩:=hM s wX;exact⟨a,b⟩
  refine⟨u,e,.inr ?_⟩;rcases w with⟨p,hp,rfl,nn⟩|⟨no,w⟩
  ·rcases (hL p hp).2 with⟨a,b,c,c2,c3⟩|⟨_,b⟩
   ·refine .inl ⟨h,.inr (.inl ⟨_,S.pl_lt hp,a,b⟩),c,c2,λn1=>c3 ?_⟩;refine ab2 λy=>n1 (.inr ⟨_,S.pl_lt hp,a,λv hv=>ab2 λq=>y ⟨v,hv,q⟩⟩)
   ·exact absurd b nn
  ·rcases w with⟨y,_⟩|⟨_,w⟩
   ·lia
   rcases w with⟨s,wX,rfl,nn⟩|⟨no2,rfl⟩
   ·obtain⟨ss,sQ,rfl,a,b⟩:=hM s wX;rcases same ss sQ with⟨c,c1,c2⟩|⟨_,c⟩
    ·exact .inl ⟨h,.inr (.inr ⟨ss,sQ,c⟩),b,c1,λ_=>c2⟩
    ·exact absurd c nn
   ·refine .inr ⟨λy=>?_,rfl⟩;rcases y with y|⟨c,hc,a,b⟩|⟨ss,sQ,b⟩
    ·exact h y
    ·obtain⟨p,hp,rfl⟩:=S.at hc;rcases (hL p hp).2 with⟨_,_,_,q,_⟩|⟨q,_⟩
     ·exact q (no p hp)
     ·exact q ⟨a,b⟩
    ·rcases same ss sQ with⟨_,q,_⟩|⟨q,_⟩
     ·exact q (no2 _ (aan.mpr ⟨lf ss,aan.mpr ⟨ss,sQ,rfl⟩,rfl⟩))
     ·exact q b
end
structure Tk (n:Nat)(γ:List (List Int))(o:List Int)(T:Tb):Prop where
 r:Em n γ
 po:bA n o
 t:∀d,d<γ.length->∃t,T d=[t]/\t.length=n/\γ.getD d []=aJ t o
def iR (R δ:List (List Int)):U:=.lst ((R.zip δ).map λx=>.tup [ah x.1,ah x.2])
section
variable {T:Tb}
theorem Z3 (h:Tk n γ o T):St n γ.length o 1 (iQ (F0 γ)) T:=
 ⟨OW h.r,h.po,h.r.n8,(gr.beg rfl λd hd=>by
  obtain⟨t,a,_,b⟩:=h.t d hd;exact⟨t,a,b⟩).res (Q4 _),λd hd y=>by
  obtain⟨t,a,_⟩:=h.t d hd;rw[a] at y;cases y⟩
theorem T4 (h:Tk n γ o T)(l1:ss≠[])(l2:ss.length<=4)(hs:∀s∈ss,bA n (lf s))(hl:∀s∈ss,∀t:List Int,t.length=n->aJ (aJ t o) (lf s)=aJ (aJ t s) o) :
  ∃D m,cA [dQ γ.length 1 (iQ (F0 γ)),SU (ss.map lf)]=.ok (dQ γ.length D m)/\St n γ.length o D m (Tm T ss):=by
 have S:=Z3 h;have r2:=h.r.l2;have s1:=afk.mpr l1;have ml:(iQ (F0 γ)).length<=4:=by
  unfold iQ;rw[aaa,(aH _).length_eq];have:=m9 (F0 γ);rw[L7] at this;lia
 have sf:Sf n _:=⟨h.r.n1,h.r.n8,(λo' EC=>by
  obtain⟨s,wX,rfl⟩:=aan.mp EC;exact hs s wX),by rw[aaa];exact s1,by rw[aaa];lia⟩
 have hm:(ss.map lf).length*(iQ (F0 γ)).length<=60:=by
  rw[aaa];exact abl (Nat.mul_le_mul l2 ml) (by decide)
 have ok:=Tv S.k sf hm (by rw[aaa];lia);refine⟨_,_,LZ S.k sf hm,ok,h.po,h.r.n8,(S.r.flat (λs wX d hd t ht=>hl s wX t ?_) l1).res λx hx=>(uk S.k sf x hx).2,λd hd y=>?_⟩
 ·obtain⟨t',a,b,_⟩:=h.t d hd;grind
 ·obtain⟨t',a,_,_⟩:=h.t d hd;cases ss with
  |nil=>exact l1 rfl
  |cons s ss=>
   have y:((s::ss).flatMap _)=[]:=y;rw[a] at y;cases y
theorem O9 (h:Tk n γ o T)(hd:Du γ.length z δ)(ι:U){w:Nat}(hw:w<1000):jA [iR γ δ,ι,.int (w:Nat)]=Bh .S ((dO (ba 5) fK (bu 0 (w+1)) [some (iR γ δ),some ι,some (.int (w:Nat)),some (dQ γ.length 1 (iQ (F0 γ))),some (g8 δ),none,none]).seq (bx (gC .non))):=by
 have sz:aaf=16777216:=rfl;have r2:=h.r.l2;have b:=Tx h.r (u:=.lst _) λρ=>rfl;have zl:(γ.zip δ).length=γ.length:=by rw[adB,hd.l];exact aeL _
 have sb:∀ρ,jc (iR γ δ) ρ=.ok _:=λρ=>rfl;have e1:=bz (f:=nI [none,none] (bL 2 (ay (ba 0) (ay (ba 1) bT))) bO (ag 0) [some (iR γ δ),some ι,some (.int (w:Nat)),none,none,none,none]) (c:=λx:List Int×List Int=>U.tup [ah x.1,ah x.2]) (g:=λx=>ah x.1) (xs:=γ.zip δ) λx hx=>by rfl
 have e2:=bz (f:=nI [none,none] (bL 2 (ay (ba 0) (ay (ba 1) bT))) bO (ag 1) [some (iR γ δ),some ι,some (.int (w:Nat)),some (dQ γ.length 1 (iQ (F0 γ))),none,none,none]) (c:=λx:List Int×List Int=>U.tup [ah x.1,ah x.2]) (g:=λx=>ah x.2) (xs:=γ.zip δ) λx hx=>by rfl
 have r1:((γ.zip δ).map λx:List Int×List Int=>ah x.1)=γ.map ah:=by
  have:((γ.zip δ).map Prod.fst)=γ:=List.map_fst_zip (by rw[hd.l];exact aaq _)
  conv=>rhs;rw[←this,aat]
  rfl
 have r3:U.lst ((γ.zip δ).map λx:List Int×List Int=>ah x.2)=g8 δ:=by
  have:((γ.zip δ).map Prod.snd)=δ:=List.map_snd_zip (by rw[hd.l];exact aaq _);unfold g8
  conv=>rhs;rw[←this,aat]
  rfl
 have z1:(γ.map ah).length<=aaf:=by rw[aaa];lia
 have z2:((γ.zip δ).map λx:List Int×List Int=>ah x.2).length<=aaf:=by rw[aaa,zl];simp_all
 rw[r1] at e1;have rg:∀ρ,sZ [.int ((w:Int)+1)] ρ=.ok _:=λρ=>gI (w+1) (by lia);unfold jA vQ;simp only[Pzz,gz,sb,e1,b,e2,r3,rg]
theorem wu {st dU:U}(h:aF 20 [st,dU,ι,.int (k:Nat)]=.ok u)(nt:NT u):fK [x0,some ι,x2,some st,some dU,some (.int (k:Nat)),x6]=(if rJ u=true then SR.nx else SR.rt u) [x0,some ι,x2,some st,some dU,some (.int (k:Nat)),some u]:=by
 unfold fK;rcases nt with rfl|⟨us,rfl⟩
 ·simp only[Pzz,h,tQ]
 ·simp only[Pzz,h,Ep]
open Classical in
noncomputable def mI (w:Nat)(a b c:Prop):U:=if a then .int 0 else if 1<=w/\b then .int 1 else if 2<=w/\c then .int 2 else .non
def z8:ba 5 u [x0,x1,x2,x3,x4,x5,x6]=.ok [x0,x1,x2,x3,x4,some u,x6]:=nr rfl
theorem EZ {x y w v:U}(h:jA [x,y,w]=.ok u)(nt:NT u)(hv:u≠.non->aW 20 [u,y]=.ok v):br [x,y,w]=.ok (if rJ u=true then .non else v):=by
 unfold br gR;rcases nt with rfl|⟨us,rfl⟩
 ·simp only[Pzz,gz,h,tQ,id_eq]
 simp_all[Pzz,gz,Ep,id_eq]
theorem qd (h:Tk n γ o T)(hd:Du γ.length z δ)(hs:∀ss∈ms,ss≠[]/\ss.length<=4/\∀s∈ss,bA n s/\bA n (lf s)/\∀t:List Int,t.length=n->aJ (aJ t o) (lf s)=aJ (aJ t s) o){w:Nat}(hw:w<=2) :
  br [iR γ δ,.tup ((ms.map λss=>ss.map lf).map SU),.int (w:Nat)]=.ok (mI w (En n γ.length T (dG δ z)) (C1 n γ.length (dG δ z) T) (C2 n γ.length (dG δ z) ms T)):=by
 have S:=Z3 h;obtain⟨u0,p0,c0⟩:=W0 S hd 19 (.tup _);obtain⟨u1,p1,c1⟩:=W1 S hd 17 _;obtain⟨u2,p2,c2⟩:=W2 S hd 15 (λss sQ=>⟨(hs ss sQ).1,λs h2=>((hs ss sQ).2.2 s h2).1⟩) λss sQ=>T4 h (hs ss sQ).1 (hs ss sQ).2.1 (λs h2=>((hs ss sQ).2.2 s h2).2.1) λs h2=>((hs ss sQ).2.2 s h2).2.2;have n0:NT u0:=by rcases c0 with⟨_,b⟩|⟨_,b⟩;exact b.nt.1;exact .inl b
 have n1:NT u1:=by rcases c1 with⟨_,b⟩|⟨_,_,b⟩|⟨_,b⟩;exact b.nt.1;exact b.nt.1;exact .inl b
 have n2:NT u2:=by rcases c2 with⟨_,b⟩|⟨_,_,b,_⟩|⟨_,b⟩;exact b.nt.1;exact b;exact .inl b
 generalize U.tup _=ι at *;have run:=O9 h hd ι (w:=w) (by lia);have key:∃u,jA [iR γ δ,ι,.int (w:Nat)]=.ok u/\NT u/\((u=.non/\mI w (En n γ.length T (dG δ z)) (C1 n γ.length (dG δ z) T) (C2 n γ.length (dG δ z) ms T)=.non)\/(u≠.non/\∃v,aW 20 [u,ι]=.ok v/\mI w (En n γ.length T (dG δ z)) (C1 n γ.length (dG δ z) T) (C2 n γ.length (dG δ z) ms T)=v)):=by
  have ww:w=0\/w=1\/w=2:=by lia
  by_cases a:En n γ.length T (dG δ z)
  ·have b:=(c0.resolve_right λq=>q.1 a).2;refine⟨u0,?_,n0,.inr ⟨b.nt.2,.int 0,zZ b ι 19,by unfold mI;rw[hZ a]⟩⟩;rw[run,iP,adg,aal,dE,z8,ju,wu p0 n0,hV λq=>b.nt.2 ((O5 n0).mp q)];rfl
  ·have z0:=(c0.resolve_left λq=>a q.1).2;subst z0;have s0:∀{x0 x2 x6:Option U},fK [x0,some ι,x2,some _,some _,some _,x6]=.nx _:=wu p0 n0;by_cases b:C1 n γ.length (dG δ z) T
   ·have l:=(c1.resolve_left λq=>a q.1).resolve_right λq=>q.1 b;rcases ww with rfl|ww
    ·refine⟨.non,?_,.inl rfl,.inl ⟨rfl,by unfold mI;rw[hV a,hV λq=>by lia,hV λq=>by lia]⟩⟩;rw[run,show bu 0 (0+1)=[.int (0:Nat)] from rfl];simp only[dE,z8,ju,s0];rfl
    ·refine⟨u1,?_,n1,.inr ⟨l.2.2.nt.2,.int 1,Eu l.2.2 ι 18,by unfold mI;rw[hV a,hZ ⟨by lia,b⟩]⟩⟩;have s1:∀{x0 x2 x6:Option U},fK [x0,some ι,x2,some _,some _,some _,x6]=.rt u1 _:=λ{x0 x2 x6}=>by rw[wu p1 n1,hV λq=>l.2.2.nt.2 ((O5 n1).mp q)]
     rcases ww with rfl|rfl
     ·rw[run,show bu 0 (1+1)=[.int (0:Nat),.int (1:Nat)] from rfl];simp only[dE,z8,ju,s0,s1,jZ];rfl
     ·rw[run,show bu 0 (2+1)=[.int (0:Nat),.int (1:Nat),.int (2:Nat)] from rfl];simp only[dE,z8,ju,s0,s1,jZ];rfl
   ·have z1:=((c1.resolve_left λq=>a q.1).resolve_left λq=>b q.2.1).2;subst z1;have s1:∀{x0 x2 x6:Option U},fK [x0,some ι,x2,some _,some _,some _,x6]=.nx _:=wu p1 n1;rcases ww with rfl|rfl|rfl
    ·refine⟨.non,?_,.inl rfl,.inl ⟨rfl,by unfold mI;rw[hV a,hV λq=>by lia,hV λq=>by lia]⟩⟩;rw[run,show bu 0 (0+1)=[.int (0:Nat)] from rfl];simp only[dE,z8,ju,s0];rfl
    ·refine⟨.non,?_,.inl rfl,.inl ⟨rfl,by unfold mI;rw[hV a,hV λq=>b q.2,hV λq=>by lia]⟩⟩;rw[run,show bu 0 (1+1)=[.int (0:Nat),.int (1:Nat)] from rfl];simp only[dE,z8,ju,s0,s1,jZ];rfl
    ·have r3:dO (ba 5) fK (bu 0 (2+1)) [some (iR γ δ),some ι,some (.int (2:Nat)),some (dQ γ.length 1 (iQ (F0 γ))),some (g8 δ),none,none]=dO (ba 5) fK [.int (2:Nat)] [some (iR γ δ),some ι,some (.int (2:Nat)),some (dQ γ.length 1 (iQ (F0 γ))),some (g8 δ),some (.int (1:Nat)),some .non]:=by
      rw[show bu 0 (2+1)=[.int (0:Nat),.int (1:Nat),.int (2:Nat)] from rfl,dE,z8,ju,s0,jZ,dE,z8,ju,s1,jZ]
     rw[run,r3,dE,z8,ju,wu p2 n2];rcases c2 with⟨q,_⟩|⟨_,q,_,nn,dd⟩|⟨q,rfl⟩
     ·exact absurd q a
     ·refine⟨u2,?_,n2,.inr ⟨nn,.int 2,dd b 17,by unfold mI;rw[hV a,hV λy=>b y.2,hZ ⟨by lia,q⟩]⟩⟩;rw[hV λy=>nn ((O5 n2).mp y)];rfl
     ·refine⟨.non,?_,.inl rfl,.inl ⟨rfl,by unfold mI;rw[hV a,hV λy=>b y.2,hV λy=>q y.2]⟩⟩;rfl
 obtain⟨u,e,nt,w2⟩:=key;rcases w2 with⟨rfl,t⟩|⟨nn,v,dv,t⟩
 ·rw[EZ (v:=.non) e nt λq=>absurd rfl q,t,hZ tQ]
 ·rw[EZ e nt λ_=>dv,t,hV λq=>nn ((O5 nt).mp q)]
end
def lV (π:Nat->Nat)(f:Int->Int)(T:Tb):Tb:=λd=>(T (π d)).map (List.map f)
noncomputable def wx (nd:Nat)(π:Nat->Nat)(f:Int->Int)(g:List Int):List Int:=(aax nd).map λd=>f (g.getD (π d) 0)
def WF (n:Nat)(T:Tb):Prop:=∀d,∀t∈T d,t.length=n
structure Mp (nd:Nat)(π:Nat->Nat)(f:Int->Int):Prop where
 p:∀d,d<nd->π d<nd
 s:∀e,e<nd->∃d,d<nd/\π d=e
 i:∀a b,f a=f b->a=b
theorem oI {f:Int->Int}{t:List Int}(h:c<t.length):(t.map f).getD c 0=f (t.getD c 0):=by
 rw[aag,aar,aag,aad h];rfl
section
variable {π:Nat->Nat}{f:Int->Int}{T:Tb}
theorem Gy (h:d<nd):(wx nd π f g).getD d 0=f (g.getD (π d) 0):=by
 unfold wx;rw[aag,aar,abh h];rfl
def qe {t:List Int}:t∈lV π f T d↔∃s∈T (π d),s.map f=t:=aan
theorem m_ (M:Mp nd π f)(W:WF n T)(hc:c<n):CB nd (lV π f T) c (wx nd π f g)=true↔CB nd T c g=true:=by
 rw[iJ,iJ];constructor
 ·intro h e he t ht;obtain⟨d,hd,rfl⟩:=M.s e he;have:=h d hd (t.map f) (qe.mpr ⟨t,ht,rfl⟩);rw[oI (by rw[W _ t ht];exact hc),Gy hd] at this;exact M.i _ _ this
 ·intro h d hd t ht;obtain⟨s,hs,rfl⟩:=qe.mp ht;rw[oI (by rw[W _ s hs];exact hc),Gy hd,h (π d) (M.p d hd) s hs]
theorem iS (M:Mp nd π f)(W:WF n T)(hc:c<n){v:Int}:v∈seen nd (lV π f T) c↔∃w∈seen nd T c,v=f w:=by
 rw[kY];constructor
 ·rintro⟨d,hd,t,ht,rfl⟩;obtain⟨s,hs,rfl⟩:=qe.mp ht;exact⟨_,kY.mpr ⟨π d,M.p d hd,s,hs,rfl⟩,oI (by rw[W _ s hs];exact hc)⟩
 ·rintro⟨w,hw,rfl⟩;obtain⟨e,he,t,ht,rfl⟩:=kY.mp hw;obtain⟨d,hd,rfl⟩:=M.s e he;exact⟨d,hd,t.map f,qe.mpr ⟨t,ht,rfl⟩,oI (by rw[W _ t ht];exact hc)⟩
theorem z9 (M:Mp nd π f)(W:WF n T)(hc:c<n)(v:Int):sel (lV π f T) c (f v)=lV π f (sel T c v):=by
 funext d;show ((T (π d)).map _).filter _=((T (π d)).filter _).map _;rw[List.filter_map];congr 1;apply afU;intro t ht;show ((t.map f).getD c 0==f v)=_;rw[oI (by rw[W _ t ht];exact hc),abo,beq_iff_eq,beq_iff_eq];exact⟨M.i _ _,λe=>by rw[e]⟩
theorem WF.sel (W:WF n T)(c:Nat)(v:Int):WF n (sel T c v):=λd t ht=>W d t (abX.mp ht).1
theorem T5 (M:Mp nd π f)(W:WF n T)(hc:c<n):Eo nd (lV π f T) c=true↔Eo nd T c=true:=by
 have ln:∀v d,(sel _ c (f v) d).length=(sel T c v (π d)).length:=λv d=>by
  rw[z9 M W hc];exact aaa _
 unfold Eo;simp only[aaK,aaH];constructor
 ·intro h v hv d hd e he;obtain⟨d',MK,rfl⟩:=M.s d hd;obtain⟨e',Il,rfl⟩:=M.s e he;have:=h (f v) ((iS M W hc).mpr ⟨v,hv,rfl⟩) d' MK e' Il
  rwa [ln,ln] at this
 ·intro h v hv d hd e he;obtain⟨w,hw,rfl⟩:=(iS M W hc).mp hv;rw[ln,ln];exact h w hw _ (M.p d hd) _ (M.p e he)
theorem O_ (M:Mp nd π f)(W:WF n T)(hc:c<n):wq nd (lV π f T) c=true↔wq nd T c=true:=by
 unfold wq;simp only[aaK,beq_iff_eq];constructor
 ·intro h v hv w hw;exact M.i _ _ (h (f v) ((iS M W hc).mpr ⟨v,hv,rfl⟩) (f w) ((iS M W hc).mpr ⟨w,hw,rfl⟩))
 ·intro h v hv w hw;obtain⟨v',hv',rfl⟩:=(iS M W hc).mp hv;obtain⟨w',Zg,rfl⟩:=(iS M W hc).mp hw;rw[h v' hv' w' Zg]
theorem Mm (M:Mp nd π f)(W:WF n T)(hc:c<n):Es nd (lV π f T) c=true↔Es nd T c=true:=by
 unfold Es;rw[aaC,aaC,afV,afV,←ac_,←ac_,T5 M W hc,O_ M W hc]
def wy (M:Mp nd π f)(W:WF n T):∀cs:List (List Int),En n nd (lV π f T) (cs.map (wx nd π f))↔En n nd T cs
 | []=>afI
 | [a]=>⟨fun⟨c,hc,h⟩=>⟨c,hc,(m_ M W hc).mp h⟩,fun⟨c,hc,h⟩=>⟨c,hc,(m_ M W hc).mpr h⟩⟩
 | [a,b]=>⟨fun⟨c,d,hc,hd,ne,h,h'⟩=>⟨c,d,hc,hd,ne,(m_ M W hc).mp h,(m_ M W hd).mp h'⟩,fun⟨c,d,hc,hd,ne,h,h'⟩=>⟨c,d,hc,hd,ne,(m_ M W hc).mpr h,(m_ M W hd).mpr h'⟩⟩
 |_::_::_::_=>afI
theorem all_map (M:Mp nd π f)(W:WF n T)(hc:c<n){P Q:Tb->Prop}(h:∀v∈seen nd T c,P (lV π f (sel T c v))↔Q (sel T c v)):(∀v∈seen nd (lV π f T) c,P (sel (lV π f T) c v))↔∀v∈seen nd T c,Q (sel T c v):=by
 constructor
 ·intro a v hv;have:=a (f v) ((iS M W hc).mpr ⟨v,hv,rfl⟩);rw[z9 M W hc] at this;exact (h v hv).mp this
 ·intro a v hv;obtain⟨w,hw,rfl⟩:=(iS M W hc).mp hv;rw[z9 M W hc];exact (h w hw).mpr (a w hw)
theorem Gz {P Q:Nat->Prop}(h:∀c,c<n->(P c↔Q c)):(∃c,c<n/\P c)↔∃c,c<n/\Q c:=⟨fun⟨c,hc,a⟩=>⟨c,hc,(h c hc).mp a⟩,fun⟨c,hc,a⟩=>⟨c,hc,(h c hc).mpr a⟩⟩
theorem wz (M:Mp nd π f)(W:WF n T)(cs:List (List Int)):C1 n nd (cs.map (wx nd π f)) (lV π f T)↔C1 n nd cs T:=
 or_congr (wy M W cs) (Gz λc hc=>and_congr (Mm M W hc) (all_map M W hc (P:=λT=>En n nd T _) (Q:=λT=>En n nd T cs) λv _=>wy M (W.sel c v) cs))
theorem Ck {α β:Type}{f g:α->List β}:∀{l:List α},(∀x∈l,f x=g x)->l.flatMap f=l.flatMap g
 | [],_=>rfl
 |x::l,h=>by rw[abR,abR,h x aae,Ck λy hy=>h y (aai _ hy)]
theorem Mo (W:WF n T)(hs:∀s∈ss,bA n s):Tm (lV π f T) ss=lV π f (Tm T ss):=by
 funext d;show (ss.flatMap λs=>((T (π d)).map _).map _)=(ss.flatMap _).map _;rw[List.map_flatMap];refine Ck λs h=>?_;rw[aat,aat];apply aav;intro t ht;show s.map _=(s.map _).map f;rw[aat];apply aav;intro i hi;have:=fc (hs s h) i hi;exact oI (by rw[W _ t ht];lia)
theorem WF.mix (W:WF n T)(hs:∀s∈ss,bA n s):WF n (Tm T ss):=λd t ht=>by
 obtain⟨s,h,ht⟩:=abz.mp ht;obtain⟨r,_,rfl⟩:=aan.mp ht;unfold aJ;rw[aaa];exact bR (hs s h)
theorem Mq (M:Mp nd π f)(W:WF n T)(cs:List (List Int))(hs:∀ss∈ms,∀s∈ss,bA n s):C2 n nd (cs.map (wx nd π f)) ms (lV π f T)↔C2 n nd cs ms T:=by
 refine or_congr (wy M W cs) (or_congr (Gz λc hc=>and_congr (Mm M W hc) (all_map M W hc λv _=>wz M (W.sel c v) cs)) ?_);constructor
 ·rintro⟨ss,h,a⟩;rw[Mo W (hs ss h)] at a;exact⟨ss,h,(wz M (W.mix (hs ss h)) cs).mp a⟩
 ·rintro⟨ss,h,a⟩;refine⟨ss,h,?_⟩;rw[Mo W (hs ss h)];exact (wz M (W.mix (hs ss h)) cs).mpr a
theorem z_:∀(cs:List (List Int)) (T:Tb),En n nd T cs.reverse↔En n nd T cs
 | [],_=>afI
 | [_],_=>afI
 | [a,b],_=>⟨fun⟨c,d,hc,hd,ne,h,h'⟩=>⟨d,c,hd,hc,ne.symm,h',h⟩,fun⟨c,d,hc,hd,ne,h,h'⟩=>⟨d,c,hd,hc,ne.symm,h',h⟩⟩
 |a::b::c::l,T=>by
  have:∀l ,3<=l.length->¬En n nd T l:=λl hl h=>by
   match l,h with
   | [_],_=>simp at hl
   | [_,_],_=>simp at hl
  exact iff_of_false (this _ (by simp[*])) (this _ (by simp))
def Ex (cs:List (List Int))(T:Tb):C1 n nd cs.reverse T↔C1 n nd cs T:=
 or_congr (z_ cs T) (Gz λc _=>and_congr afI (forall_congr' λv=>imp_congr afI (z_ cs _)))
def T6 (cs:List (List Int))(ms:List (List (List Int)))(T:Tb):C2 n nd cs.reverse ms T↔C2 n nd cs ms T:=
 or_congr (z_ cs T) (or_congr (Gz λc _=>and_congr afI (forall_congr' λv=>imp_congr afI (Ex cs _))) (exists_congr λss=>and_congr afI (Ex cs _)))
end
def bk (n:Nat)(o:List Int):List Int:=(aQ n).map λi=>((o.idxOf i:Nat):Int)
def Aa (n:Nat)(o s:List Int):List Int:=aJ (aJ (bk n o) s) o
theorem Mr {v:Int}:∀{o:List Int} {i:Nat},v∈o->HN v i (o.map U.int)=some (i+o.idxOf v)
 |a::o,i,h=>by
  show (if a=v then some i else HN v (i+1) _)=_;rw[List.idxOf_cons];by_cases c:a=v
  ·rw[hZ c,beq_iff_eq.mpr c];rfl
  ·rw[hV c,Mr ((aaA.mp h).resolve_left λz=>c z.symm),beq_eq_false_iff_ne.mpr c];show some _=some (i+(o.idxOf v+1));rw[Nat.add_assoc,afz 1]
theorem lN {r:List Int}(h:r.length=n):aJ r (aQ n)=r:=by
 unfold aJ aQ;rw[aat];refine adZ (by rw[aaa,aaJ];exact h.symm) λi h1 h2=>?_;rw[acK,adj];show r.getD _ 0=r[i];rw[abt,aag,aad h2];rfl
theorem GA {s:List Int}(hs:bA n s)(ho:bA n o):bA n (aJ s o):=by
 have:(aJ s o).Perm (aJ s _):=List.Perm.map _ ho;rw[lN (bR hs)] at this;exact this.trans hs
theorem Ey {a b c:List Int}(hb:b.length=n)(hc:bA n c):aJ (aJ a b) c=aJ a (aJ b c):=by
 unfold aJ;rw[aat];apply aav;intro i hi;have:=fc hc i hi;show (b.map _).getD i.toNat 0=a.getD (b.getD i.toNat 0).toNat 0;have l:i.toNat<b.length:=by simp[*]
 rw[aag,aar,aag (l:=b),aad l];rfl
theorem Ab (ho:bA n o):bA n (bk n o):=by
 have nd:=ho.symm.nodup (zX n);have:(bk n o).Perm _:=ho.symm.map _;refine this.trans ?_;have e:(o.map λv=>((o.idxOf v:Nat):Int))=aQ n:=by
  unfold aQ;refine adZ (by rw[aaa,aaa,aaJ];exact bR ho) λi h1 h2=>?_;rw[acK,acK,adj,nd.idxOf_getElem]
 rw[e]
theorem T7 (ho:bA n o):aJ o (bk n o)=aQ n:=by
 unfold aJ bk;rw[aat]
 conv=>rhs;rw[←adC (aQ n)]
 apply aav;intro i hi;have hm:=ho.mem_iff.mpr hi;have l:=List.idxOf_lt_length_of_mem hm;show o.getD _ 0=i;rw[abt,aag,aad l,List.getElem_idxOf];rfl
def Pa (ho:bA n o){s:List Int}(hs:bA n s):bA n (Aa n o s):=GA (GA (Ab ho) hs) ho
theorem Pb (ho:bA n o){s:List Int}(hs:bA n s){t:List Int}(ht:t.length=n):aJ (aJ t o) (Aa n o s)=aJ (aJ t s) o:=by
 unfold Aa;have lo:=bR ho;rw[←Ey (by unfold aJ;rw[aaa];exact bR hs) ho,←Ey (bR (Ab ho)) hs,Ey lo (Ab ho),T7 ho,lN ht]
theorem Pc (n8:n<=8)(ho:bA n o):oA [ah o]=.ok (ah (bk n o)):=by
 have sz:aaf=16777216:=rfl;have l:gy [ah o]=.ok (.int (n:Nat)):=by unfold ah;rw[mj,aaa,bR ho]
 have rg:∀ρ,sZ _ ρ=.ok _:=λρ=>by rw[gI n (by lia),gJ]
 have e:=bz (f:=nI [none,some 0] (ba 0) bO (Lf (ag 1) (b1x 0)) [some (ah o)]) (c:=U.int) (g:=λi=>U.int ((o.idxOf i:Nat):Int)) λi hi=>by
  have e4:∀ρ:Ev,Lf (ag 1) (b1x 0) [some (.int i),some (ah o)]=.ok _:=λ_=>by
   unfold Lf;simp only[Pzz,Nat.reduceSub];unfold D0 ah;dsimp only;rw[Mr (ho.mem_iff.mpr hi),abw];rfl
  simp only[Pzz,e4 []]
 have z:((aQ n).map λi=>U.int ((o.idxOf i:Nat):Int)).length<=aaf:=by rw[aaa,iy];lia
 have r:U.tup ((aQ n).map λi=>U.int ((o.idxOf i:Nat):Int))=ah (bk n o):=by unfold ah bk;rw[aat];rfl
 unfold oA D8;simp only[Pzz,gz,Nat.reduceAdd,Nat.reduceSub,l,rg,e,r]
theorem GB (n8:n<=8){a b:List Int}(ha:a.length=n)(hb:bA n b):km [ah a,ah b]=.ok (ah (aJ a b)):=by
 have:=v9 (λi hi=>by rw[ha];exact fc hb i hi) (by rw[bR hb];lia);unfold km D7;simp only[Pzz,gz,this]
theorem Pd (i:Int):BN 20 [.int i]=.ok (.int i):=by kernel_rfl
theorem Pe (n8:n<=8){r:List Int}(hr:r.length=n)(ho:bA n o):qL [ah r,ah o]=.ok (ah (aJ r o)):=by
 have sz:aaf=16777216:=rfl;have so:∀ρ,jc (ah o) ρ=.ok _:=λρ=>rfl;have e:=bz (f:=nI [none,some 0] (ba 0) bO (eo 1 (BN 20) (af (aR dq (ag 1) (ag 0)) aq)) [some (ah r),some (ah o)]) (c:=U.int) (g:=λi=>U.int (r.getD i.toNat 0)) λi hi=>by
  have hb:=fc ho i hi;have e3:=rq (row:=r) (p:=i.toNat) (by lia);rw[show ((i.toNat:Nat):Int)=i by lia] at e3;simp only[Pzz,e3,Pd]
 have z:(o.map λi=>U.int (r.getD i.toNat 0)).length<=aaf:=by rw[aaa,bR ho];lia
 have rr:U.tup (o.map λi=>U.int (r.getD i.toNat 0))=ah (aJ r o):=by unfold ah aJ;rw[aat];rfl
 unfold qL D6;simp only[Pzz,gz,Nat.reduceAdd,Nat.reduceSub,so,e,rr]
def T0 (γ:List (List Int)):Tb:=λd=>γ[d]?.toList
def g9 (i:Int):Int:=9-i
structure Mn (n:Nat)(ms:List (List (List Int))):Prop where
 s:∀ss∈ms,ss≠[]/\ss.length<=4/\∀s∈ss,bA n s
 l:ms.length<=3
def MQ {α:Type}(l:List α):List α:=l.drop 1++l.take 1
theorem ng {α:Type}(l:List α):(MQ l).length=l.length:=by unfold MQ;rw[aay,acd,aa2];lia
theorem Ms {α:Type}(z:α):∀(l:List α) (d:Nat),d<l.length->(MQ l).getD d z=l.getD ((d+1) % l.length) z
 | [],d,h=>by cases h
 |x::l,d,h=>by
  rw[aaw] at h ⊢;show (l++[x]).getD d z=_;by_cases c:d=l.length
  ·subst c;rw[Nat.mod_self,aag,ace (aaq _),Nat.sub_self];rfl
  ·rw[Nat.mod_eq_of_lt (by (simp;lia)),aag,abZ (by lia)];rfl
theorem T8 (N:Nat)(f:Int->Int)(i:∀a b,f a=f b->a=b):Mp N (λd=>(d+1) % N) f:=by
 refine⟨λd hd=>acW _ (by lia),λe he=>?_,i⟩;by_cases c:e=0
 ·exact⟨N-1,by lia,by rw[Nat.sub_add_cancel (by lia),Nat.mod_self,c]⟩
 ·exact⟨e-1,by omega,by rw[Nat.sub_add_cancel (by lia),Nat.mod_eq_of_lt he]⟩
theorem Cm (h:d<γ.length):T0 γ d=[γ.getD d []]:=by
 unfold T0;rw[aag,aad h];rfl
theorem Q_ (h:Em n γ):WF n (T0 γ):=λd t ht=>by
 unfold T0 at ht;cases e:γ[d]? with
 |none=>rw[e] at ht;cases ht
 |some r=>
  rw[e] at ht;have:=aau.mp ht;rw[this];exact h.l r (abq e)
theorem nh (h:Em n γ)(hd:d<γ.length):(γ.getD d []).length=n:=Q_ h d _ (by rw[Cm hd];exact aau.mpr rfl)
theorem Ez {R:List (List Int)}(h:Em n γ)(hl:R.length=γ.length)(hr:∀r∈R,r.length=n):Em n R:=⟨h.n1,h.n8,hr,by rw[hl];exact h.l1,by rw[hl];exact h.l2⟩
def Z4 (h:Em n γ):Tk n γ (aQ n) (T0 γ):=⟨h,abB _,λd hd=>⟨_,Cm hd,nh h hd,(lN (nh h hd)).symm⟩⟩
theorem XG (h:Em n γ)(ho:bA n o):Tk n (γ.map λr=>aJ r o) o (T0 γ):=by
 refine⟨Ez h (aaa _) λr hr=>?_,ho,λd hd=>?_⟩
 ·obtain⟨t,_,rfl⟩:=aan.mp hr;unfold aJ;rw[aaa];exact bR ho
 ·rw[aaa] at hd;refine⟨_,Cm hd,nh h hd,?_⟩;rw[aag,aar,aag,aad hd];rfl
theorem tk3 (h:Em n γ):Tk n (MQ γ) (aQ n) (lV (λd=>(d+1) % γ.length) id (T0 γ)):=by
 have l1:=h.l1;refine⟨Ez h (ng _) λr hr=>?_,abB _,λd hd=>?_⟩
 ·rcases aaQ.mp hr with y|y
  ·exact h.l r (List.mem_of_mem_drop y)
  ·exact h.l r (acw y)
 ·rw[ng] at hd;have hp:(d+1) % γ.length<γ.length:=acW _ (by assumption);refine⟨γ.getD _ [],?_,nh h hp,?_⟩
  ·show (T0 γ _).map _=_;rw[Cm hp,aal,adC];rfl
  ·rw[Ms [] γ d hd,lN (nh h hp)]
theorem tk4 (h:Em n γ):Tk n (γ.map (List.map g9)) (aQ n) (lV id g9 (T0 γ)):=by
 refine⟨Ez h (aaa _) λr hr=>?_,abB _,λd hd=>?_⟩
 ·obtain⟨t,ht,rfl⟩:=aan.mp hr;rw[aaa];exact h.l t ht
 ·rw[aaa] at hd;have l:((γ.getD d []).map g9).length=n:=by rw[aaa];exact nh h hd
  refine⟨(γ.getD d []).map g9,?_,l,?_⟩
  ·show (T0 γ d).map _=_;rw[Cm hd];rfl
  ·rw[lN l,aag,aar,aag,aad hd];rfl
theorem Pf {π:Nat->Nat}{f:Int->Int}{N:Nat}{sR:List (List Int)}(l':sR.length=N)(h:∀d,d<N->(sR.getD d []).getD k 0=f ((δ.getD (π d) []).getD k 0))(hp:∀d,d<N->π d<δ.length):gW sR k=wx N π f (gW δ k):=by
 unfold gW wx;refine adZ (by rw[aaa,aaa,aaJ];exact l') λd h1 h2=>?_;rw[aaa] at h1;have hd:d<N:=by lia
 have:=h d hd;have q:=hp d hd;rw[aag (l:=sR),aad h1,aag (l:=δ),aad q] at this;rw[acK,acK,adj,aag (l:=δ.map _),aar,aad q];exact this
theorem Co {π:Nat->Nat}{f:Int->Int}{N:Nat}{sR:List (List Int)}(l':sR.length=N)(h:∀k,k<z->∀d,d<N->(sR.getD d []).getD k 0=f ((δ.getD (π d) []).getD k 0))(hp:∀d,d<N->π d<δ.length):dG sR z=(dG δ z).map (wx N π f):=by
 unfold dG;rw[aat];apply aav;intro k hk;exact Pf l' (h k (aaH.mp hk)) hp
theorem EA {w:Nat}{a b c a' b' c':Prop}(h1:a'↔a)(h2:b'↔b)(h3:c'↔c):mI w a' b' c'=mI w a b c:=by rw[propext h1,propext h2,propext h3]
theorem Pg {w:Nat}{a b c:Prop}:o_ (mI w a b c) (mI w a b c)=.ok true:=by
 have i:∀i ,o_ (.int i) (.int i)=.ok true:=λi=>by rw[N7,beq_self_eq_true]
 have nn:o_ .non .non=.ok true:=by unfold o_ l9;rfl
 unfold mI;split
 ·exact i 0
 ·split
  ·exact i 1
  ·split
   ·exact i 2
   ·exact nn
theorem um (hm:Mn n ms):∀ss∈ms,ss≠[]/\ss.length<=4/\∀s∈ss,bA n s/\bA n (id s)/\∀t:List Int,t.length=n->aJ (aJ t (aQ n)) (id s)=aJ (aJ t s) (aQ n):=λss h=>by
 obtain⟨a,b,c⟩:=hm.s ss h;refine⟨a,b,λs hs=>⟨c s hs,c s hs,λt ht=>?_⟩⟩;rw[lN ht,lN (by unfold aJ;rw[aaa];exact bR (c s hs))];rfl
theorem uo (ms:List (List (List Int))):(ms.map λss=>ss.map id)=ms:=by
 conv=>rhs;rw[←adC ms]
 apply aav;intro ss _;rw[adC];rfl
theorem Mt (n8:n<=8)(hm:Mn n ms)(ho:bA n o):G_ (nI [none,some 2] (ba 0) bO (fi bJ (af (eU (cP (ag 0)) [none,some 1] (ba 0) bO (eo 2 km (af (eo 2 km (af (eo 1 oA (b1x 1)) (b1x 0))) (b1x 1)))) aq)) [x0,some (.tup (ms.map SU)),some (ah o),x3,x4,none,none]) (ms.map SU)=.ok ((ms.map λss=>ss.map (Aa n o)).map SU):=by
 have sz:aaf=16777216:=rfl;rw[aat];refine bz λss sQ=>?_;obtain⟨_,l4,c⟩:=hm.s ss sQ;have sb:∀ρ,jc (SU ss) ρ=.ok _:=λρ=>rfl;have b:=Pc n8 ho;have e:=bz (f:=nI [none,some 1] (ba 0) bO (eo 2 km (af (eo 2 km (af (eo 1 oA (b1x 1)) (b1x 0))) (b1x 1))) [some (SU ss),some (ah o)]) (c:=ah) (g:=λs=>ah (Aa n o s)) λs hs=>by
  have t1:=GB n8 (bR (Ab ho)) (c s hs);have t2:=GB n8 (a:=aJ (bk n o) s) (by unfold aJ;rw[aaa];exact bR (c s hs)) ho;simp only[Pzz,b,t1,t2];rfl
 have zz:(ss.map λs=>ah (Aa n o s)).length<=aaf:=by rw[aaa];lia
 have r:U.tup (ss.map λs=>ah (Aa n o s))=SU (ss.map (Aa n o)):=by unfold SU;rw[aat];rfl
 simp only[Pzz,sb,e,r];rfl
theorem uq {f g:List Int->List Int}:∀(a b:List (List Int)),((a.zip b).map λx=>U.tup [ah (f x.1),ah (g x.2)])=((a.map f).zip (b.map g)).map λx=>U.tup [ah x.1,ah x.2]
 | [],_=>rfl
 |_::_,[]=>rfl
 |x::a,y::b=>by
  have:=uq (f:=f) (g:=g) a b;simp only[afC,aal,this]
theorem Mv (h:Em n γ)(hd:Du γ.length z δ)(hm:Mn n ms)(ho:bA n o){w:Nat}(hw:w<=2):ji [iR γ δ,.tup (ms.map SU),ah o,.int (w:Nat)]=.ok (.bl true):=by
 have sz:aaf=16777216:=rfl;have n8:=h.n8;have r2:=h.l2;have z2:z<=2:=by rcases hd.z1 with e|e<;>lia
 have zl:(γ.zip δ).length=γ.length:=by rw[adB,hd.l];exact aeL _
 have al:=λss a s b=>(hm.s ss a).2.2 s b;have d0:=qd (Z4 h) hd (um hm) hw;rw[uo] at d0;have d1:=qd (XG h ho) (by rw[aaa];exact hd) (λss a=>⟨(hm.s ss a).1,(hm.s ss a).2.1,λs b=>⟨al ss a s b,Pa ho (al ss a s b),λt ht=>Pb ho (al ss a s b) ht⟩⟩) hw;rw[aaa] at d1;have du2:Du _ z (δ.map List.reverse):=⟨by rw[aaa,hd.l],(λg hg=>by
  obtain⟨q,hq,rfl⟩:=aan.mp hg;rw[ac4];exact hd.w q hq),hd.z1⟩
 have c2:dG (δ.map List.reverse) z=(dG δ z).reverse:=by
  have cr:∀k,k<z->gW _ k=gW δ _:=λk hk=>by
   unfold gW;rw[aat];apply aav;intro g hg;show g.reverse.getD k 0=g.getD _ 0;rw[aag,List.getElem?_reverse (by rw[hd.w g hg];exact hk),hd.w g hg,aag]
  rcases hd.z1 with rfl|rfl
  ·show [gW _ 0]=[gW _ 0];rw[cr 0 (by decide)]
  ·show [gW _ 0,gW _ 1]=[gW _ 1,gW _ 0];rw[cr 0 (by decide),cr 1 (by decide)]
 have d2:=qd (Z4 h) du2 (um hm) hw;rw[uo,c2,EA (z_ _ _) (Ex _ _) (T6 _ _ _)] at d2;have W:=Q_ h;have du3:Du (MQ γ).length z (MQ δ):=⟨by rw[ng,ng,hd.l],(λg hg=>by
  rcases aaQ.mp hg with y|y
  ·exact hd.w g (List.mem_of_mem_drop y)
  ·exact hd.w g (acw y)),hd.z1⟩
 have M3:=T8 γ.length id λa b e=>e;have c3:dG _ z=(dG δ z).map (wx _ _ id):=Co (by rw[ng,hd.l]) (λk _ d yx=>by
  rw[Ms [] δ d (by rw[hd.l];exact yx),hd.l];rfl) λd yx=>by rw[hd.l];exact M3.p d yx
 have d3:=qd (tk3 h) du3 (um hm) hw;rw[uo,ng,c3,EA (wy M3 W _) (wz M3 W _) (Mq M3 W _ al)] at d3;have M4:Mp γ.length id g9:=⟨λd a=>a,λe a=>⟨e,a,rfl⟩,λa b e=>by unfold g9 at e;simp_all⟩;have du4:Du (γ.map (List.map g9)).length z (δ.map (List.map g9)):=⟨by rw[aaa,aaa,hd.l],(λg hg=>by
  obtain⟨q,hq,rfl⟩:=aan.mp hg;rw[aaa];exact hd.w q hq),hd.z1⟩
 have c4:dG (δ.map (List.map g9)) z=(dG δ z).map (wx _ id g9):=Co (by rw[aaa,hd.l]) (λk hk d yx=>by
  have l:d<δ.length:=by rw[hd.l];exact yx
  show ((δ.map _).getD d []).getD k 0=g9 ((δ.getD d []).getD k 0);rw[aag (l:=δ.map _),aar,aag (l:=δ),aad l];exact oI (by rw[hd.w _ (aaU l)];exact hk)) λd yx=>by rw[hd.l];exact yx
 have d4:=qd (tk4 h) du4 (um hm) hw;rw[uo,aaa,c4,EA (wy M4 W _) (wz M4 W _) (Mq M4 W _ al)] at d4;have lm:=Mt n8 hm ho (x0:=some (iR γ δ)) (x3:=some (.int (w:Nat))) (x4:=some (mI w (En n γ.length (T0 γ) (dG δ z)) (C1 n γ.length (dG δ z) (T0 γ)) (C2 n γ.length (dG δ z) ms (T0 γ))));have te:=Pg (w:=w) (a:=En n γ.length (T0 γ) (dG δ z)) (b:=C1 n γ.length (dG δ z) (T0 γ)) (c:=C2 n γ.length (dG δ z) ms (T0 γ));generalize mI w _ _ _=t at *;have l2:(2:Nat)<=aaf:=by decide
 have sm:∀ρ,jc (.tup (ms.map SU)) ρ=.ok _:=λρ=>rfl;have sd:∀ρ,jc (iR γ δ) ρ=.ok _:=λρ=>rfl;have zm:((ms.map λss=>ss.map (Aa n o)).map SU).length<=aaf:=by rw[aaa,aaa];have:=hm.l;lia
 generalize hL:U.tup ((ms.map _).map SU)=Lm at *;have e1:=bz (f:=nI [none,none,some 2] (bL 2 (ay (ba 0) (ay (ba 1) bT))) bO (bQ (af (eo 2 qL (yqa 0 2)) (b1x 1))) [some (iR γ δ),some (.tup (ms.map SU)),some (ah o),some (.int (w:Nat)),some t,some Lm,none]) (c:=λx:List Int×List Int=>U.tup [ah x.1,ah x.2]) (g:=λx=>U.tup [ah (aJ x.1 o),ah x.2]) (xs:=γ.zip δ) λx hx=>by
  have la:=Pe n8 (h.l _ (adm hx).1) ho;simp only[Pzz,B5,la,l2]
 have e2:=bz (f:=nI [none,none] (bL 2 (ay (ba 0) (ay (ba 1) bT))) bO (bQ (af (ag 0) (af (F1 (ag 1)) aq))) [some (iR γ δ),some (.tup (ms.map SU)),some (ah o),some (.int (w:Nat)),some t,some Lm,none]) (c:=λx:List Int×List Int=>U.tup [ah x.1,ah x.2]) (g:=λx=>U.tup [ah x.1,ah x.2.reverse]) (xs:=γ.zip δ) λx hx=>by
  have rv:∀ρ:Ev,F1 (ag 1) [some (ah x.1),some (ah x.2)]=.ok (ah _,[some _,some _]):=λ_=>by
   unfold ah;rw[List.map_reverse];rfl
  simp only[Pzz,B5,rv [],l2]
 have q1:U.lst ((γ.zip δ).map λx=>U.tup [ah (aJ x.1 o),ah x.2])=iR (γ.map λr=>aJ r o) δ:=by
  have:=uq (f:=λr=>aJ r o) (g:=id) γ δ;rw[adC] at this;exact congrArg U.lst this
 have q2:U.lst ((γ.zip δ).map λx=>U.tup [ah x.1,ah x.2.reverse])=iR γ (δ.map List.reverse):=by
  have:=uq (f:=id) (g:=List.reverse) γ δ;rw[adC] at this;exact congrArg U.lst this
 have e4:=bz (f:=nI [none,none] (bL 2 (ay (ba 0) (ay (ba 1) bT))) bO (bQ (af (fi bJ (af (eU (cP (ag 0)) [none] (ba 0) bO (aR qz (zqc 9) (ag 0))) aq)) (af (fi bJ (af (eU (cP (ag 1)) [none] (ba 0) bO (aR qz (zqc 9) (ag 0))) aq)) aq))) [some (iR γ δ),some (.tup (ms.map SU)),some (ah o),some (.int (w:Nat)),some t,some Lm,none]) (c:=λx:List Int×List Int=>U.tup [ah x.1,ah x.2]) (g:=λx=>U.tup [ah (x.1.map g9),ah (x.2.map g9)]) (xs:=γ.zip δ) λx hx=>by
  have lr:=h.l _ (adm hx).1;have ld:=hd.w _ (adm hx).2;have sr:∀(r:List Int) ρ,jc (ah r) ρ=.ok _:=λr ρ=>rfl;have ee:∀(r:List Int) (ρ:Ev),G_ (nI [none] (ba 0) bO (aR qz (zqc 9) (ag 0)) ρ) (r.map U.int)=.ok (r.map λi=>U.int (9-i)):=λr ρ=>bz λi _=>by rfl
  have rr:∀r:List Int,U.tup (r.map λi=>U.int (9-i))=ah (r.map g9):=λr=>by unfold ah;rw[aat];rfl
  have s1:(x.1.map λi=>U.int (9-i)).length<=aaf:=by rw[aaa];lia
  have s2:(x.2.map λi=>U.int (9-i)).length<=aaf:=by rw[aaa];lia
  simp only[Pzz,B5,sr,ee,rr,l2]
 have q4:U.lst _=iR _ _:=congrArg U.lst (uq (f:=List.map g9) (g:=List.map g9) γ δ);have ct:∀(us:List U) (k:Nat),kC us none (some (k:Int))=us.take k:=λus k=>by
  show (us.drop 0).take (min k us.length-0)=us.take k;rw[aeH,Nat.sub_zero,List.take_eq_take_iff];simp
 have cd:∀(us:List U) (k:Nat),kC us (some (k:Int)) none=us.drop k:=λus k=>by
  show (us.drop (min k us.length)).take (us.length-min k us.length)=us.drop k;rw[aeq (by rw[acd];lia)];by_cases c:k<=us.length
  ·rw[Nat.min_eq_left c]
  ·rw[Nat.min_eq_right (by lia),adi (aaq _),adi (by lia)]
 have q3:Jw (.lst (kC ((γ.zip δ).map λx=>U.tup [ah x.1,ah x.2]) (some 1) none)) (.lst (kC ((γ.zip δ).map λx=>U.tup [ah x.1,ah x.2]) none (some 1)))=.ok (iR (MQ γ) (MQ δ)):=by
  rw[show (1:Int)=((1:Nat):Int) from rfl,ct,cd];have:((γ.zip δ).map λx=>U.tup [ah x.1,ah x.2]).drop 1++((γ.zip δ).map λx=>U.tup [ah x.1,ah x.2]).take 1=((MQ γ).zip (MQ δ)).map λx=>U.tup [ah x.1,ah x.2]:=by
   rw[←List.map_drop,←List.map_take,←aaD];congr 1;have ll:=hd.l;cases γ with
   |nil=>cases δ with
    |nil=>rfl
    |cons=>cases ll
   |cons r γ=>cases δ with
    |nil=>cases ll
    |cons g δ=>
     show (γ.zip δ)++[(r,g)]=(γ++[r]).zip (δ++[g]);rw[List.zip_append (by rw[aaw,aaw] at ll;lia)];rfl
  unfold Jw iR;rw[←this];exact hZ (by rw[acd,aa2,aaa];lia)
 have z1:((γ.zip δ).map λx=>U.tup [ah (aJ x.1 o),ah x.2]).length<=aaf:=by rw[aaa];lia
 have z3:((γ.zip δ).map λx=>U.tup [ah x.1,ah x.2.reverse]).length<=aaf:=by rw[aaa];simp_all
 have z4:((γ.zip δ).map λx=>U.tup [ah (x.1.map g9),ah (x.2.map g9)]).length<=aaf:=by rw[aaa];simp_all
 have dl:yT (iR γ δ)=yT (.lst _):=rfl;unfold ji lG;simp only[Pzz,gz,d0,lm,hL,sd,e1,q1,d1,te,id_eq,e2,q2,d2,dl,q3,d3,e4,q4,d4]
def Cd (n:Nat)(r:List Int):Prop:=r.length=n/\∀c∈r,0<=c/\c<4
theorem drawn {s:U}(hs:wV s){m:Int}(m0:0<m)(m4:m<=4){u2:U}:∃(row:List Int) (s':U),sX eA [none,some 0] (ba 0) bO (qx 2 1 aK (af (gC (.int m)) aq)) (bu 0 n) [some s,x1,some u2,x3,x4,none,none,none,none,none]=.ok (row.map .int,[some s',x1,some u2,x3,x4,none,none,none,none,none])/\Cd n row/\wV s':=by
 obtain⟨ys,s',e,l,row,hr,hc,Ih⟩:=pD (G:=eA) (js:=[none,some 0]) (sg:=ba 0) (ge:=qx 2 1 aK (af (gC (.int m)) aq)) (λs:U=>[some s,x1,some u2,x3,x4,none,none,none,none,none]) n (λys s=>∃row:List Int,ys=row.map .int/\(∀c∈row,0<=c/\c<4)/\wV s)
  (λdone u s _ θ=>by
   obtain⟨row,hr,hc,hs⟩:=θ;obtain⟨r,s',b1,b2,b3,b4⟩:=fP hs m0 (by lia);refine⟨[some u,some s],.int r,[some u,some s'],s',rfl,?_,rfl,row++[r],by rw[hr,aaD];rfl,λc XI=>?_,b4⟩
   ·simp only[Pzz,b1]
   ·rcases aaQ.mp XI with z|z
    ·exact hc c z
    ·rw[aau.mp z];exact⟨b2,by lia⟩) (bu 0 n) [] s (by rw[bP];simp) ⟨[],rfl,(λc hc=>by cases hc),hs⟩
 rw[bP] at l;refine⟨row,s',by rw[e,←hr];rfl,⟨?_,hc⟩,Ih⟩;have:=congrArg aev hr;simp at this;lia
theorem GC (r:List Int)(γ:List (List Int)):∃b,An not (ah r) (.lst (γ.map ah))=.ok (.bl b)/\(γ=[]->b=true):=by
 refine⟨_,TV (z6 r) (kX z6 γ) (λd hd=>by
  obtain⟨x,_,rfl⟩:=aan.mp hd;have:=Gx x;lia),λe=>by rw[e];rfl⟩
theorem Ph {s:U}(hs:wV s)(n8:n<=8)(hr:∀r∈γ,Cd n r)(hl:γ.length<4):∃(s':U) (Θ:List (List Int)) (a4:Option U),cU [some s,some (.int (n:Nat)),some (.lst (γ.map ah)),x3,x4,none,none,none,none,none]=.nx [some s',some (.int (n:Nat)),some (.lst (Θ.map ah)),x3,a4,none,none,none,none,none]/\wV s'/\(∀r∈Θ,Cd n r)/\Θ≠[]/\Θ.length<=γ.length+1:=by
 have sz:aaf=16777216:=rfl;have rg:∀ρ,sZ _ ρ=.ok _:=λρ=>gI n (by lia);obtain⟨r1,s1,e1,c1,h1⟩:=drawn hs (n:=n) (m:=2) (by decide) (by decide) (x1:=some (.int (n:Nat))) (u2:=.lst (γ.map ah)) (x3:=x3) (x4:=x4);obtain⟨t,s2,e2,t0,t1,h2⟩:=fP h1 (m:=5) (by decide) (by decide);obtain⟨r2,s3,e3,c3,h3⟩:=drawn h2 (n:=n) (m:=4) (by decide) (by decide) (x1:=some (.int (n:Nat))) (u2:=.lst (γ.map ah)) (x3:=x3) (x4:=some (ah r1));have XT:∀r ,U.tup _=ah r:=λr=>rfl;have z1:(r1.map U.int).length<=aaf:=by rw[aaa,c1.1];lia
 have z2:(r2.map U.int).length<=aaf:=by rw[aaa,c3.1];lia
 have ap:∀r ,(γ.map ah)++[ah r]=(γ++[r]).map ah:=λr=>by rw[aaD];rfl
 have zr:(γ.map ah).length<aaf:=by rw[aaa];lia
 have ok:∀r,Cd n r->∀q∈γ++[r],Cd n q:=λr c q hq=>by
  rcases aaQ.mp hq with y|y
  ·exact hr q y
  ·rw[aau.mp y];exact c
 by_cases ct:t=0
 ·subst ct;obtain⟨b,eb,bb⟩:=GC r2 γ;cases b with
  |true=>
   refine⟨s3,γ++[r2],some (ah r2),?_,h3,ok r2 c3,(λy=>by cases γ<;>cases y),by rw[aay];exact aaq _⟩;unfold cU;simp only[Pzz,rg,e1,XT,e2,beq_self_eq_true,id_eq,e3,eb,j8,zr,ap]
  |false=>
   refine⟨s3,γ,some (ah r2),?_,h3,hr,(λy=>by cases bb y),Nat.le_succ _⟩;unfold cU;simp only[Pzz,rg,e1,XT,e2,beq_self_eq_true,id_eq,e3,eb]
 ·have nb:=beq_eq_false_iff_ne.mpr ct;obtain⟨b,eb,bb⟩:=GC r1 γ;cases b with
  |true=>
   refine⟨s2,γ++[r1],some (ah r1),?_,h2,ok r1 c1,(λy=>by cases γ<;>cases y),by rw[aay];exact aaq _⟩;unfold cU;simp only[Pzz,rg,e1,XT,e2,nb,id_eq,eb,j8,zr,ap]
  |false=>
   refine⟨s2,γ,some (ah r1),?_,h2,hr,(λy=>by cases bb y),Nat.le_succ _⟩;unfold cU;simp only[Pzz,rg,e1,XT,e2,nb,id_eq,eb]
theorem Pj (n1:1<=n)(n8:n<=8){ps:List Int}(hp:∀i∈ps,0<=i/\i<n)(pz:ps.length=z)(z1:1<=z)(z2:z<=2){r:List Int}(hr:Cd n r){t:Int}{ds:List U}(MV:ds.length<10){a9:Option U} :
  ∃g:List Int,g.length=z/\dY [x0,x1,x2,x3,some (ah r),some (.int (z:Nat)),some (ah ps),some (.int t),some (.lst ds),a9]=.nx [x0,x1,x2,x3,some (ah r),some (.int (z:Nat)),some (ah ps),some (.int t),some (.lst (ds++[.tup [ah r,ah g]])),some (ah g)]:=by
 have sz:aaf=16777216:=rfl;have so:∀ρ,jc (ah ps) ρ=.ok _:=λρ=>rfl;have e1:=bz (f:=nI [none,some 4] (ba 0) bO (aR dq (ag 1) (ag 0)) [x0,x1,x2,x3,some (ah r),some (.int (z:Nat)),some (ah ps),some (.int t),some (.lst ds),a9]) (c:=U.int) (g:=λi=>U.int (r.getD i.toNat 0)) λi hi=>by
  have hb:=hp i hi;have e3:=rq (p:=i.toNat) (by rw[hr.1];simp[*]);rw[show ((i.toNat:Nat):Int)=i by lia] at e3;simp only[Pzz,e3]
 have zz:(ps.map λi=>U.int (r.getD i.toNat 0)).length<=aaf:=by rw[aaa];lia
 have rr:U.tup (ps.map λi=>U.int (r.getD i.toNat 0))=ah (aJ r ps):=by unfold ah aJ;rw[aat];rfl
 have lg:(aJ r ps).length=z:=by unfold aJ;rw[aaa];exact pz
 have ls:(1:Nat)<=aaf/\(2:Nat)<=aaf:=by decide
 have zd:ds.length<aaf:=by lia
 have b:∀i j:Int,i≠j->(i==j)=false:=λi j h=>beq_eq_false_iff_ne.mpr h;have sm:qI r=true:=by
  unfold qI;rw[aaC];exact⟨hG (by rw[hr.1];lia),aaK.mpr λc hc=>hG (by have:=hr.2 c hc;lia)⟩
 have su:BL [ah r]=.ok (.int r.sum):=by
  unfold BL ah;dsimp only;rw[kR];dsimp only;rw[hZ sm]
 obtain⟨M,mx⟩:∃M:Int,BK [ah r]=.ok (.int M):=by
  unfold BK ah;dsimp only;rw[kR];cases r with
  |nil=>have:=hr.1;rw[abH] at this;lia
  |cons c r=>exact⟨_,rfl⟩
 by_cases t1:t=1
 ·subst t1;have cu:kC ((aJ r ps).map U.int) none (some (-1))=((aJ r ps).take (z-1)).map U.int:=by
   have:z=1\/z=2:=by lia
   rcases this with rfl|rfl
   ·obtain⟨x,ex⟩:=List.length_eq_one_iff.mp lg;rw[ex];rfl
   ·generalize aJ r ps=g at lg
    match g,lg with
    | [x,y],_=>rfl
  refine⟨(aJ r ps).take (z-1)++[r.sum % 2],by rw[aay,aa2,acj];simp[*],?_⟩;have ap:ah ((aJ r ps).take (z-1)++[r.sum % 2])=.tup (((aJ r ps).take (z-1)).map U.int++[.int (r.sum % 2)]):=by unfold ah;rw[aaD];rfl
  have za:(((aJ r ps).take (z-1)).map U.int).length+1<=aaf:=by rw[aaa,aa2];simp_all
  have sl:yT (ah (aJ r ps)) none (some (-1))=.ok (.tup (((aJ r ps).take (z-1)).map U.int)):=by rw[←cu];rfl
  have m2:decide ((0:Int)<2)=true:=by decide
  rw[ap];unfold dY;simp only[Pzz,so,e1,rr,beq_self_eq_true,b 1 2 (by decide),id_eq,ls,sl,su,m2,za,j8,zd]
 by_cases t2:t=2
 ·subst t2;refine⟨aa_ z M,acM,?_⟩;have mu:F2 (.tup [.int M]) (.int (z:Nat))=.ok (ah (aa_ z M)):=by
   have:z=1\/z=2:=by lia
   rcases this with rfl|rfl<;>rfl
  unfold dY;simp only[Pzz,so,e1,beq_self_eq_true,b 2 1 (by decide),id_eq,ls,mx,mu,j8,zd]
 ·refine⟨aJ r ps,lg,?_⟩;unfold dY;simp only[Pzz,so,e1,rr,b t 1 t1,b t 2 t2,id_eq,ls,j8,zd]
theorem Mw {s:U}(hs:wV s)(n1:1<=n)(n4:n<=4):∃(γ δ:List (List Int)) (z:Nat) (s':U),f6 [s,.int (n:Nat)]=.ok (iR γ δ,s')/\Em n γ/\Du γ.length z δ/\wV s':=by
 obtain⟨c,s1,e1,c0,c1,h1⟩:=fP hs (m:=4) (by decide) (by decide);obtain⟨cn,hcn⟩:∃cn:Nat,1+c=(cn+1:Nat):=⟨c.toNat,by lia⟩;have rg:∀ρ,sZ [.int (1+c)] ρ=.ok _:=λρ=>by rw[hcn];exact gI (cn+1) (by lia)
 obtain⟨ρ,e2,s2,γ,a3,a4,rfl,h2,hr,ne,rl⟩:=cF (us:=bu 0 (cn+1)) (sg:=ba 3)
  (λi ρ=>∃(s2:U) (γ:List _) (a3 a4:Option U),ρ=[some s2,some _,some (.lst (γ.map ah)),a3,a4,none,none,none,none,none]/\wV s2/\(∀r∈γ,Cd n r)/\(1<=i->γ≠[])/\γ.length<=i)
  (λi u ρ hu θ=>by
   obtain⟨s2,γ,a3,a4,hq,h2,hr,_,rl⟩:=θ;subst hq;have hi:i<cn+1:=by
    rcases acz i (cn+1) with y|y
    ·exact y
    ·rw[aa9.mpr (by rw[bP];exact y)] at hu;cases hu
   obtain⟨s3,Θ,b4,e,h3,Φ,ne',rl'⟩:=Ph h2 (by lia) hr (by lia);exact⟨_,_,rfl,.inl e,s3,Θ,some u,b4,rfl,h3,Φ,λ_=>ne',by lia⟩)
  (ρ:=[some s1,some (.int (n:Nat)),some (.lst []),none,none,none,none,none,none,none]) ⟨s1,[],none,none,rfl,h1,(λr h=>by cases h),(λy=>by omega),aaq _⟩
 rw[bP] at ne rl;have ne:=ne (by lia);have mn:∃q:Nat,(if (n:Int)<2 then (n:Int) else 2)=q/\1<=q/\q<=2/\q<=n:=by
  by_cases y:n=1
  ·subst y;exact⟨1,rfl,by omega,by omega,by omega⟩
  ·exact⟨2,by rw[hV (by lia)];rfl,by omega,by omega,by lia⟩
 obtain⟨q,hq,q1,q2,qn⟩:=mn;obtain⟨t,s3,e3,t0,t1,h3⟩:=fP h2 (m:=(q:Int)) (by lia) (by lia);obtain⟨z,hz⟩:∃z:Nat,1+t=(z:Nat):=⟨(1+t).toNat,by grind⟩;obtain⟨o,s4,e4,ho,h4⟩:=p6 h3 (m:=n) (by lia);have e4:bM _=.ok (ah o,s4):=e4;obtain⟨w,s5,e5,w0,w1,h5⟩:=fP h4 (m:=4) (by decide) (by decide);have lo:=bR ho;have cu:yT (ah o) none (some ((z:Nat):Int))=.ok (ah (o.take z)):=by
  unfold ah;rw[Kt];unfold kC;rw[aaa];show R.ok (U.tup (((o.map U.int).drop 0).take (min z o.length-0)))=_;rw[aeH,Nat.sub_zero,Nat.min_eq_left (by lia),List.map_take]
 have pz:(o.take z).length=z:=by rw[aa2];grind
 have pm:∀i∈o.take z,0<=i/\i<n:=λi hi=>fc ho i (acw hi);have rl4:γ.length<=4:=by lia
 obtain⟨ρ,e6,δ,b4,b9,rfl,dl,dw⟩:=cF (sg:=ba 4)
  (λi ρ=>∃(δ:List _) (b4 b9:Option U),ρ=[some s5,some (.int (n:Nat)),some _,a3,b4,some (.int (z:Nat)),some _,some (.int w),some (iR (γ.take i) δ),b9]/\δ.length=i/\∀g∈δ,g.length=z)
  (λi u ρ hu θ=>by
   obtain⟨δ,b4,b9,hq,dl,dw⟩:=θ;subst hq;have hi:i<γ.length:=by have:=(aap.mp hu).1;rwa [aaa] at this
   rw[aar,aad hi] at hu;obtain rfl:ah γ[i]=u:=by injection hu
   obtain⟨g,gl,e⟩:=Pj n1 (by lia) pm pz (by lia) (by lia) (hr _ (aaU hi)) (ds:=((γ.take i).zip δ).map λx=>U.tup _) (by rw[aaa,adB];lia);refine⟨_,_,rfl,.inl e,δ++[g],some (ah γ[i]),some (ah g),?_,by rw[aay,dl];rfl,λx hx=>?_⟩
   ·have:iR (γ.take (i+1)) (δ++[g])=.lst ((((γ.take i).zip δ).map λx=>U.tup [ah x.1,ah x.2])++[.tup [ah γ[i],ah g]]):=by
     unfold iR;rw[aaO hi,List.zip_append (by rw[aa2];lia),aaD];rfl
    rw[this]
   ·rcases aaQ.mp hx with y|y
    ·exact dw x y
    ·rw[aau.mp y];exact gl)
  (ρ:=[some s5,some _,some (.lst (γ.map ah)),a3,a4,some _,some (ah (o.take z)),some (.int w),some (.lst []),none]) ⟨[],a4,none,rfl,rfl,λg h=>by cases h⟩
 rw[aaa,abj] at e6;rw[aaa] at dl;refine⟨γ,δ,z,s5,?_,⟨n1,by lia,λr h=>(hr r h).1,afk.mpr ne,rl4⟩,⟨dl,dw,by lia⟩,h5⟩;have sb:∀ρ,jc (.lst (γ.map ah)) ρ=.ok _:=λρ=>rfl;have l0:=by omega
 unfold f6 i5;simp only[Pzz,gz,e1,rg,e2,B4,hq,e3,hz,e4,cu,e5,e6,zP]
theorem Ra {v b:Int}(h:0<b)(h2:b<1000000000000000):jb (.int v) (.int b)=.ok (.int (v / b)):=by
 obtain⟨g,rfl⟩:∃g:Nat,b=g:=⟨b.toNat,by lia⟩;exact QY (by lia) (by lia)
theorem swap_perm (l:List Int)(hi:i<l.length)(hj:j<l.length):((l.set i l[j]).set j l[i]).Perm l:=by
 have:=Array.swap_perm (xs:=l.toArray) (by simpa using hi) (by simpa using hj);have:=adK.mp this;simpa [Array.swap] using this
theorem Pl (n8:n<=8)(ho:bA n o)(hk:2*k+1<n){l:List Int}(hl:bA n l)(fx:∀j,2*k<=j->j<n->l.getD (o.getD j 0).toNat 0=o.getD j 0) :
  ∃(l':List Int) (a5 a6:Option U),i4 [x0,some (ah o),x2,some (.lst (l.map U.int)),some (.int (k:Nat)),x5,x6]=.nx [x0,some (ah o),x2,some (.lst (l'.map U.int)),some (.int (k:Nat)),a5,a6]/\bA n l'/\∀j,2*(k+1)<=j->j<n->l'.getD (o.getD j 0).toNat 0=o.getD j 0:=by
 have lo:=bR ho;have ll:=bR hl;have nd:=ho.symm.nodup (zX n);have inj:∀i j,i<n->j<n->o.getD i 0=o.getD j 0->i=j:=λi j hi hj e=>(List.getD_inj (by simp[*]) (by simp[*]) nd).mp e;have bd:∀j,j<n->0<=o.getD j 0/\o.getD j 0<n:=λj hj=>fc ho _ (by rw[aag,aad (by simp[*])];exact aaU _);obtain⟨a,ha⟩:∃a:Nat,o.getD (2*k) 0=a:=⟨(o.getD (2*k) 0).toNat,by have:=bd (2*k) (by lia);lia⟩;obtain⟨b,hb⟩:∃b:Nat,o.getD (2*k+1) 0=b:=⟨(o.getD (2*k+1) 0).toNat,by have:=bd _ hk;lia⟩;have an:a<n:=by have:=bd (2*k) (by lia);simp_all
 have bn:=by have:=bd _ hk;omega
 have fa:=fx (2*k) (aaq _) (by lia);have fb:=fx _ (by simp) hk;rw[ha] at fa;rw[hb] at fb;have la:l[a]'(by simp[*])=(a:Int):=by rw[aag,aad (by simp[*])] at fa;exact fa
 have lb:l[b]'(by simp_all)=(b:Int):=by rw[aag,aad (by simp_all)] at fb;exact fb
 have sp:=swap_perm l (i:=a) (j:=b) (by simp[*]) (by grind);rw[la,lb] at sp;refine⟨(l.set a (b:Int)).set b (a:Int),some (.int (a:Nat)),some (.int (b:Nat)),?_,sp.trans hl,λj hj hn=>?_⟩
 ·have e1:=rq (row:=o) (p:=2*k) (by lia);have e2:=rq (row:=o) (p:=2*k+1) (by simp[*]);rw[ha] at e1;rw[hb] at e2;have e1:dq (ah o) (.int (2*(k:Nat)))=.ok (.int (a:Nat)):=by congr 2
  have e2:dq (ah o) (.int (2*(k:Nat)+1))=.ok (.int (b:Nat)):=by congr 2
  have c:lq 2 ((k:Nat):Int)=true:=mm (by lia) (by lia);have i1:Am (l.map U.int).length ((a:Nat):Int)=some a:=by rw[aaa];unfold Am;rw[hZ (by lia),hZ (by simp[*])];rfl
  have i2:Am ((l.map U.int).set a (.int (b:Nat))).length ((b:Nat):Int)=some b:=by rw[abu,aaa];unfold Am;rw[hZ (by lia),hZ (by grind)];rfl
  rw[List.map_set,List.map_set];unfold i4;simp only[Pzz,c,e1,e2,FE i1,FE i2]
 ·have na:(o.getD j 0).toNat≠a:=λy=>by
   have:=bd j hn;have:=inj j (2*k) hn (by lia) (by lia);lia
  have nb:(o.getD j 0).toNat≠b:=λy=>by
   have:=bd j hn;have:=inj j _ hn hk (by lia);lia
  have:=fx j (by lia) hn;rw[aag,aaV nb.symm,aaV na.symm];exact this
theorem EB (n1:1<=n)(n8:n<=8)(ho:bA n o){q:Nat}(hq:q<=100):∃g:List Int,ft [.int (n:Nat),ah o,.int (q:Nat)]=.ok (SU [aQ n,g])/\bA n g:=by
 have sz:aaf=16777216:=rfl;obtain⟨w,hw,w2⟩:∃w:Nat,(if ((n:Int) / 2)<(q:Int) then ((n:Int) / 2) else (q:Int))=(w:Nat)/\2*w<=n:=by
  by_cases y:((n:Int) / 2)<(q:Int)
  ·exact⟨n / 2,by rw[hZ y];rfl,by lia⟩
  ·exact⟨q,by rw[hV y],by (simp at *;lia)⟩
 have rl:∀ρ,FJ _ ρ=.ok _:=λρ=>by rw[y9 n (by lia),gJ]
 have rt:∀ρ,Bi _ ρ=.ok (ah _,ρ):=λρ=>by rw[FK n (by lia),gJ];rfl
 have rg:∀ρ,sZ _ ρ=.ok _:=λρ=>gI w (by lia);obtain⟨ρ,e,l,a4,a5,a6,rfl,hl,_⟩:=cF (sg:=ba 4)
  (λi ρ=>∃(l:List Int) (a4 a5 a6:Option U),ρ=[some (.int (n:Nat)),some (ah o),some (.int (q:Nat)),some (.lst (l.map U.int)),a4,a5,a6]/\bA n l/\∀j,2*i<=j->j<n->l.getD (o.getD j 0).toNat 0=o.getD j 0)
  (λi u ρ hu θ=>by
   obtain⟨l,a4,a5,a6,hr,hl,fx⟩:=θ;subst hr;have hi:i<w:=by
    rcases acz i w with y|y
    ·exact y
    ·rw[aa9.mpr (by rw[bP];exact y)] at hu;cases hu
   obtain rfl:u=.int i:=by
    rw[gJ] at hu;unfold aQ at hu;rw[aat,aar,abh hi] at hu;cases hu;rfl
   obtain⟨l',b5,b6,e,Ð,fx'⟩:=Pl n8 ho (by lia) hl fx;exact⟨_,_,rfl,.inl e,l',_,b5,b6,rfl,Ð,fx'⟩)
  ⟨aQ n,none,none,none,rfl,abB _,λj _ hn=>by
   have lo:=bR ho;have:=fc ho (o.getD j 0) (by rw[aag,aad (by simp[*])];exact aaU _);unfold aQ;rw[aag,aar,abh (by simp_all)];show (((o.getD j 0).toNat:Nat):Int)=_;lia⟩
 refine⟨l,?_,hl⟩;have fd:jb (.int (n:Nat)) (.int 2)=.ok _:=Ra (by decide) (by decide);have z1:(l.map U.int).length<=aaf:=by rw[aaa,bR hl];lia
 have l2:(2:Nat)<=aaf:=by decide
 unfold ft jB;simp only[Pzz,gz,rl,fd,hw,rg,e,rt,z1];rfl
theorem ct_ (us:List U)(k:Nat):kC us none (some (k:Int))=us.take k:=by
 show (us.drop 0).take (min k us.length-0)=us.take k;rw[aeH,Nat.sub_zero,List.take_eq_take_iff];lia
theorem cd_ (us:List U)(k:Nat):kC us (some (k:Int)) none=us.drop k:=by
 show (us.drop (min k us.length)).take (us.length-min k us.length)=us.drop k;rw[aeq (by rw[acd];lia)];by_cases c:k<=us.length
 ·rw[Nat.min_eq_left c]
 ·rw[Nat.min_eq_right (by lia),adi (aaq _),adi (by lia)]
theorem Pm {s:U}(hs:wV s)(n1:1<=n)(n4:n<=4)(hm:ms.length<10){x7:Option U}:∃(s':U) (ss:List (List Int)) (a4 a5 a6 a7:Option U),cg [some s,some (.int (n:Nat)),some (.lst (ms.map SU)),x3,x4,x5,x6,x7]=.nx [some s',some (.int (n:Nat)),some (.lst ((ms++[ss]).map SU)),x3,a4,a5,a6,a7]/\wV s'/\ss≠[]/\ss.length<=4/\∀o∈ss,bA n o:=by
 have sz:aaf=16777216:=rfl;have ls:(1:Nat)<=aaf/\(2:Nat)<=aaf/\(3:Nat)<=aaf/\(4:Nat)<=aaf:=by decide
 have fd:jb (.int (n:Nat)) (.int 2)=.ok _:=Ra (by decide) (by decide);obtain⟨o,s1,e1,ho,h1⟩:=p6 hs (m:=n) (by lia);have e1:bM _=.ok (ah o,s1):=e1;obtain⟨r,s2,e2,r0,r1,h2⟩:=fP h1 (m:=(n:Int)) (by lia) (by lia);obtain⟨t,s3,e3,t0,t1,h3⟩:=fP h2 (m:=4) (by decide) (by decide);obtain⟨q,hq,q0⟩:∃q:Nat,dq (.lst [.int 2,.int 2,.int ((n:Int) / 2),.int (1+r)]) (.int t)=.ok (.int (q:Nat))/\q<=100:=by
  have:t=0\/t=1\/t=2\/t=3:=by lia
  rcases this with rfl|rfl|rfl|rfl
  ·exact⟨2,rfl,by decide⟩
  ·exact⟨2,rfl,by decide⟩
  ·exact⟨n / 2,rfl,by lia⟩
  ·exact⟨(1+r).toNat,by rw[Int.toNat_of_nonneg (by lia)];rfl,by (simp;lia)⟩
 obtain⟨w,s4,e4,w0,w1,h4⟩:=fP h3 (m:=4) (by decide) (by decide);have rt:∀ρ,Bi _ ρ=.ok (ah _,ρ):=λρ=>by rw[FK n (by lia),gJ];rfl
 have zr:(ms.map SU).length<aaf:=by rw[aaa];lia
 have ap:∀ss,(ms.map SU)++[SU ss]=(ms++[ss]).map SU:=λss=>by rw[aaD];rfl
 have bq:∀i j:Int,i≠j->(i==j)=false:=λi j h=>beq_eq_false_iff_ne.mpr h;have done:∀ss ,∀s' ,∀x ,x=SU ss->wV s'->ss≠[]->ss.length<=4->(∀o∈ss,bA n o)->∀(a4 a5 a6 a7:Option U),cg [some s,some (.int (n:Nat)),some (.lst (ms.map SU)),x3,x4,x5,x6,x7]=.nx _->_:=λss s' x ex Ih ne l4 EC a4 a5 a6 a7 e=>(⟨s',ss,a4,a5,a6,a7,by rw[←ap,←ex];exact e,Ih,ne,l4,EC⟩:∃(s':U) (ss:List _) (a4 a5 a6 a7:Option U),cg _=.nx [some s',some (.int (n:Nat)),some (.lst ((ms++[ss]).map SU)),x3,a4,a5,a6,a7]/\wV s'/\ss≠[]/\ss.length<=4/\∀o∈ss,bA n o);obtain⟨v,hv,v0⟩:∃v:Nat,(if (if ((n:Int) / 2)<(q:Int) then ((n:Int) / 2) else (q:Int))>1 then (if ((n:Int) / 2)<(q:Int) then ((n:Int) / 2) else (q:Int)) else 1)=(v:Nat)/\v<=100:=by
  refine⟨(if (if ((n:Int) / 2)<(q:Int) then ((n:Int) / 2) else (q:Int))>1 then (if ((n:Int) / 2)<(q:Int) then ((n:Int) / 2) else (q:Int)) else 1).toNat,?_,?_⟩
  ·split<;>(try split)<;>omega
  ·split<;>(try split)<;>omega
 obtain⟨g,ec,hg⟩:=EB n1 (by lia) ho v0;have two:∀a b ,bA n a->bA n b->∀o∈[a,b],bA n o:=λa b ha hb o h=>by
  simp only[aaA,acJ,or_false] at h;rcases h with rfl|rfl
  ·exact ha
  ·exact hb
 have Xk:¬(w=0/\2<=n)->w≠1->w≠2->_:=λa b c=>done [aQ n,g] s4 _ rfl h4 (λy=>by cases y) (show 2<=4 by decide) (two _ _ (abB _) hg) (some (ah o)) (some (.int (q:Nat))) (some (ah (aQ n))) (some (.int w)) (by
  unfold cg;by_cases w00:w=0
  ·subst w00;have n2:decide ((2:Int)<=(n:Nat))=false:=hJ λy=>a ⟨rfl,by lia⟩;simp only[Pzz,e1,fd,e2,ls,e3,hq,rt,e4,beq_self_eq_true,id_eq,n2,bq 0 1 (by decide),bq 0 2 (by decide),hv,ec,j8,zr]
  ·simp only[Pzz,e1,fd,e2,ls,e3,hq,rt,e4,id_eq,bq w 0 w00,bq w 1 b,bq w 2 c,hv,ec,j8,zr])
 by_cases w1':w=1
 ·subst w1';refine done [aQ n,o] s4 (.tup _) rfl h4 (λy=>by cases y) (show 2<=4 by decide) (two _ _ (abB _) ho) (some (ah o)) (some (.int (q:Nat))) (some (ah (aQ n))) (some (.int 1)) ?_;unfold cg;simp only[Pzz,e1,fd,e2,ls,e3,hq,rt,e4,beq_self_eq_true,id_eq,bq 1 0 (by decide),j8,zr]
 by_cases w2':w=2
 ·subst w2';obtain⟨c,s5,e5,c0,c1,h5⟩:=fP h4 (m:=3) (by decide) (by decide);obtain⟨cn,hcn⟩:∃cn:Nat,1+c=cn:=⟨(1+c).toNat,by grind⟩;obtain⟨ys,s6,e6,ly,Ì,hy,hoo,h6⟩:=pD (G:=jC) (js:=[none,some 0,some 1]) (sg:=ba 0) (ge:=qx 2 1 bM (b1x 2))
   (λx:U=>[some x,some _,some (.lst (ms.map SU)),x3,some (ah o),some (.int (q:Nat)),some (ah (aQ n)),some (.int 2)]) cn (λys x=>∃Ì:List _,ys=Ì.map ah/\(∀os∈Ì,bA n os)/\wV x)
   (λdone u x hd θ=>by
    obtain⟨Ì,hr,hp,hs⟩:=θ;obtain⟨os,x',b1,b2,b3⟩:=p6 (m:=n) hs (by lia);refine⟨[some u,some x,some (.int (n:Nat))],ah os,[some u,some x',some (.int (n:Nat))],x',rfl,?_,rfl,Ì++[os],by rw[hr,aaD];rfl,?_,b3⟩
    ·simp only[Pzz,b1];rfl
    ·intro y hy;rcases aaQ.mp hy with z|z
     ·exact hp y z
     ·rw[aau.mp z];exact b2) (bu 0 cn) [] s5 (by rw[bP];simp) ⟨[],rfl,(λx hx=>by cases hx),h5⟩
  rw[adq] at hy;rw[bP] at ly;have lo:=by
   have:=congrArg aev hy;rw[aaa] at this;omega
  rw[hy] at e6;have zz:(Ì.map ah).length<=aaf:=by rw[aaa];lia
  refine done Ì s6 (.tup _) rfl h6 (λy=>by rw[y,abH] at lo;lia) (by lia) hoo (some (ah o)) (some (.int (q:Nat))) (some (ah (aQ n))) (some (.int 2)) ?_;unfold cg;simp only[Pzz,e1,fd,e2,ls,e3,hq,rt,e4,beq_self_eq_true,id_eq,bq 2 0 (by decide),bq 2 1 (by decide),e5,hcn,gI cn (by lia),e6,j8,zr]
 by_cases w3':w=0/\2<=n
 ·obtain⟨rfl,n2⟩:=w3';have e0:=bz (f:=nI [none,some 6] (ba 0) bO (aR iM (MO yT (ag 1) (l6 (ag 0)) nH) (MO yT (ag 1) nH (l6 (ag 0)))) [some s4,some (.int (n:Nat)),some (.lst (ms.map SU)),x3,some (ah o),some (.int (q:Nat)),some (ah (aQ n)),some (.int 0)]) (c:=λi:Nat=>U.int (i:Nat)) (g:=λk=>ah ((aQ n).drop k++(aQ n).take k)) (xs:=aax n) λk hk=>by
   have qq:(((aQ n).map U.int).drop k).length+(((aQ n).map U.int).take k).length<=aaf:=by rw[acd,aa2,aaa,iy];grind
   have sl1:yT (ah (aQ n)) (some ((k:Nat):Int)) none=.ok (.tup (((aQ n).map U.int).drop k)):=by rw[←cd_];rfl
   have UK:yT (ah (aQ n)) none (some ((k:Nat):Int))=.ok (.tup (((aQ n).map U.int).take k)):=by rw[←ct_];rfl
   simp only[Pzz,sl1,UK,qq];unfold ah;rw[aaD,List.map_drop,List.map_take]
  rw[←iP] at e0;have zz:((aax n).map λk=>ah ((aQ n).drop k++(aQ n).take k)).length<=aaf:=by rw[aaa,aaJ];lia
  have d2:decide ((2:Int)<=(n:Nat))=true:=hG (by lia);have d6:decide (((n:Nat):Int)<=6)=true:=hG (by lia);refine done _ s4 (.tup ((aax n).map λk=>ah ((aQ n).drop k++(aQ n).take k))) (by unfold SU;rw[aat];rfl) h4 (λy=>by have:=congrArg aev y;rw[aaa,aaJ,abH] at this;lia) (by rw[aaa,aaJ];exact n4) (λx hx=>?_) (some (ah o)) (some (.int (q:Nat))) (some (ah (aQ n))) (some (.int 0)) ?_
  ·obtain⟨k,_,rfl⟩:=aan.mp hx;exact (List.perm_append_comm).trans (by rw[adw])
  ·unfold cg;simp only[Pzz,e1,fd,e2,ls,e3,hq,rt,e4,beq_self_eq_true,id_eq,d2,d6,gI n (by lia),e0,j8,zr]
 ·exact Xk w3' w1' w2'
theorem Po {s:U}(hs:wV s)(n1:1<=n)(n4:n<=4):∃(ms:List (List (List Int))) (s':U),gQ [s,.int (n:Nat)]=.ok (.tup (ms.map SU),s')/\Mn n ms/\wV s':=by
 have sz:aaf=16777216:=rfl;obtain⟨c,s1,e1,c0,c1,h1⟩:=fP hs (m:=3) (by decide) (by decide);obtain⟨cn,hcn⟩:∃cn:Nat,1+c=cn:=⟨(1+c).toNat,by grind⟩;obtain⟨ρ,e2,s2,ms,a3,a4,a5,a6,a7,rfl,h2,hm,ml⟩:=cF (us:=bu 0 cn) (sg:=ba 3)
  (λi ρ=>∃(s2:U) (ms:List _) (a3 a4 a5 a6 a7:Option U),ρ=[some s2,some (.int (n:Nat)),some (.lst (ms.map SU)),a3,a4,a5,a6,a7]/\wV s2/\(∀ss∈ms,ss≠[]/\ss.length<=4/\∀s∈ss,bA n s)/\ms.length=i)
  (λi u ρ hu θ=>by
   obtain⟨s2,ms,a3,a4,a5,a6,a7,hq,h2,hm,ml⟩:=θ;subst hq;have hi:i<cn:=by
    rcases acz i cn with y|y
    ·exact y
    ·rw[aa9.mpr (by rw[bP];exact y)] at hu;cases hu
   obtain⟨s3,ss,b4,b5,b6,b7,e,h3,p1,p2,p3⟩:=Pm h2 n1 n4 (ms:=ms) (by lia);refine⟨_,_,rfl,.inl e,s3,ms++[ss],some u,b4,b5,b6,b7,rfl,h3,λx hx=>?_,by rw[aay,ml];rfl⟩;rcases aaQ.mp hx with y|y
   ·exact hm x y
   ·rw[aau.mp y];exact⟨p1,p2,p3⟩)
  (ρ:=[some s1,some _,some (.lst []),none,none,none,none,none]) ⟨s1,[],none,none,none,none,none,rfl,h1,(λx h=>by cases h),rfl⟩
 rw[bP] at ml;refine⟨ms,s2,?_,⟨hm,by lia⟩,h2⟩;have zz:(ms.map SU).length<=aaf:=by rw[aaa];lia
 have l0:=by omega
 unfold gQ jD;simp only[Pzz,gz,e1,hcn,gI cn (by lia),e2]
theorem WM:∃a2 a3 a4 a5:Option U,D_ [some (.scr (ns.map .int)),some (.int i),x2,x3,x4,x5]=.nx [some (.scr (ns.map .int)),some (.int i),a2,a3,a4,a5]:=by
 obtain⟨s0,e0,h0⟩:=LF (us:=[]) (u:=.scr (ns.map .int)) (k:=i) (.inl rfl) (by lia);obtain⟨t,s1,e1,t0,t1,h1⟩:=fP h0 (m:=4) (by decide) (by decide);obtain⟨n,hn⟩:∃n:Nat,1+t=n:=⟨(1+t).toNat,by lia⟩;obtain⟨γ,δ,z,s2,e2,hr,hd,h2⟩:=Mw h1 (n:=n) (by lia) (by lia);obtain⟨ms,s3,e3,hm,h3⟩:=Po h2 (n:=n) (by lia) (by lia);obtain⟨o,s4,e4,ho,h4⟩:=p6 h3 (m:=n) (by lia);have e4:bM _=.ok (ah o,s4):=e4;obtain⟨w,s5,e5,w0,w1,h5⟩:=fP h4 (m:=3) (by decide) (by decide);obtain⟨wn,rfl⟩:∃wn:Nat,w=wn:=⟨w.toNat,by lia⟩;have al:=Mv hr hd hm ho (w:=wn) (by lia);refine⟨some s5,some (.int (n:Nat)),some (iR γ δ),some (.tup (ms.map SU)),?_⟩;unfold D_;simp only[Pzz,e0,e1,hn,e2,e3,e4,e5,al]
theorem pure_law (ns:List Int)(hl:ns.length<=63):BQ [.scr (ns.map .int)]=.ok (.bl true):=by
 obtain⟨z,hz⟩:∃z:Nat,(if (if (2:Int)<(((ns.map U.int).length:Nat):Int) then 2 else (((ns.map U.int).length:Nat):Int))>1 then (if (2:Int)<(((ns.map U.int).length:Nat):Int) then 2 else (((ns.map U.int).length:Nat):Int)) else 1)=z:=⟨(if (if (2:Int)<(((ns.map U.int).length:Nat):Int) then 2 else (((ns.map U.int).length:Nat):Int))>1 then (if (2:Int)<(((ns.map U.int).length:Nat):Int) then 2 else (((ns.map U.int).length:Nat):Int)) else 1).toNat,by split<;>(try split)<;>lia⟩;obtain⟨ε,e,a1,a2,a3,a4,a5,rfl⟩:=cF (sg:=ba 1) (λ_ ρ=>∃a1 a2 a3 a4 a5:Option U,ρ=[some _,a1,a2,a3,a4,a5])
  (λi u ρ hu θ=>by
   obtain⟨a1,a2,a3,a4,a5,hr⟩:=θ;subst hr;have hi:i<z:=by
    rcases acz i z with y|y
    ·exact y
    ·rw[aa9.mpr (by rw[bP];exact y)] at hu;cases hu
   obtain rfl:u=.int i:=by
    rw[gJ] at hu;unfold aQ at hu;rw[aat,aar,abh hi] at hu;cases hu;rfl
   obtain⟨b2,b3,b4,b5,q⟩:=WM;exact⟨_,_,rfl,.inl q,_,_,_,_,_,rfl⟩)
  (ρ:=[some (.scr (ns.map .int)),none,none,none,none,none]) ⟨_,_,_,_,_,rfl⟩
 unfold BQ Lq;simp only[Pzz,gz,hz,gI z (by lia),e]
theorem walk {d:DefRec}{K:Params->aam}(WT:d.params.defaults=[])(hY:∀(w:ac2) (h:ac5),YP w h->(K w.params).In h)(F:∀(w:ac2) (mg:Str->Option aao) (fa:aaL) (h:ac5),(K w.params).In h->h.Ns abg mg->mg d.name=some (.ref fa)->
   ∃fd:ae2,(∀(s:aaE) (u:aao),BindsTo s fd ⟨[u],[]⟩ [("script",u)])/\∀base:ac5,(K w.params).In base->base.Ns abg mg->ny PySem.Challenge.rw_hushcards_k75_whole_laid_otherwise.prog w (K w.params) mg base AA 31 fa fd ["script"] (AU (K w.params))) :
  PySem.W.WalkO q Ρ XP YP PySem.Challenge.rw_hushcards_k75_whole_laid_otherwise.row.toRowW d [] (λf vs=>PySem.call f vs):=
 L2.walk_of (l:=PySem.Challenge.rw_hushcards_k75_whole_laid_otherwise) (n:=63) (k:=31) (x:="script") (CX:=λ_=>AA) (sp:=λw=>AU (K w.params)) rfl (by decide) WT ⟨rfl,by decide,by decide⟩ hY F (λ_ _ a ns hl hO hS=>⟨a,ns,rfl,Sl hO hS,hl,λ_=>rfl⟩) λ_ _ _ _ _ z=>z
end Hc
open PySem PySem.W PyProof.Rows
set_option maxRecDepth 100000 in
set_option maxHeartbeats 0 in
theorem PySem.Challenge.cw_hushcards_k75_whole_laid_otherwise_holds : PySem.Challenge.rw_hushcards_k75_whole_laid_otherwise.Holds := by
 w_on
 refine PySem.W.holds_law (by decide+kernel) λZv=>?_;refine' PySem.W.holds_open Hc.left (PySem.W.Hook.of _) (PySem.W.Hook.keeps _) (XP:=PySem.W.XL Hc.vw [])
  (λs e=>PySem.W.xl_of s (Bool.and_eq_true_iff.mp e).1) PySem.W.XL.keeps ?d ?t ?k
  (λs e=>PySem.W.recFacts_of (Bool.and_eq_true_iff.mp e).2) ?w Zv ?g ⟨rfl,rfl,rfl,rfl,rfl,by decide+kernel⟩ ?hw ?hc
 case d=>rfl
 case t=>rfl
 case k=>rfl
 case w=>rfl
 case g=>decide+kernel
 case hw=>w_witness2
 show PySem.W.WalkO Hc.vw [] (PySem.W.XL Hc.vw []) (PySem.W.InK Hc.Kf) _ _ _ _
 k_fill
 refine Hc.walk rfl (λw h Y=>Y) ?F
 case F=>
  intro w mg fa h KX G WU;refine' Hc.all_mk KX G WU ?_ ?_ ?_ ?_ ?_ ?_ ?_ ?_ ?_ ?_ ?_ ?_ ?_ ?_ ?_ ?_ ?_ ?_ ?_ ?_ ?_ ?_ ?_ ?_ ?_ ?_ ?_ ?_ ?_ ?_ ?_ ?_ ?_ ?_ ?_ ?_ ?_ ?_ ?_ ?_ ?_ ?_ ?_ ?_ ?_ ?_ ?_ ?_ ?_ ?_ ?_ Hc.pure_law
  all_goals first|k_is|exact .mk (by k_is) (by k_is) (by k_is) (by k_is)|skip