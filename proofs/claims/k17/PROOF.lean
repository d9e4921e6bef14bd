import PyProof.Rows.All
import Wide.All
import OpenK.AllK
import Wide.FinOn
import Lean
import PyProof.EqAt
import PyProof.EqKinds
import PyProof.TupleCall
import PyProof.NeKinds
import PyProof.TupleKey
import PyProof.DictRoadsH
import PyProof.Rows.SetFrom
import PyProof.WalksMore
import PyProof.SetRoads
import PyProof.ListMulRoad
import PyProof.FactsAll.subtypes_4
import PyProof.Rows.ListMulArg
import PyProof.ZipIter
import KE.KTryMore
import PyProof.Rows.TopTwo
import PyProof.NsDelKeeps
import KE.RegKTryMore
import KE.RegKIsAll
import PyProof.DictItems
import PyProof.DictValues
import PyProof.DictWalks
import PyProof.FactsAll.dict_itemiterator
import PyProof.Rows.SortRuns
import PyProof.Rows.SortKey
import PyProof.Rows.SortShell
import PyProof.Rows.SortWalk
import KE.KSortTup
import KE.KDictList
import KE.KEqDict
import PyProof.AttrMissHeap
import KE.KDictOf
import PyProof.AutoListH
import PyProof.SumWalk
import PyProof.WalkInts
import PySem.Challenge.RW_hushcards_k17_whole_closed_ones_stay
abbrev hJ:=@decide_eq_true
abbrev hV:=@decide_eq_false
abbrev hZ.{u}:=@if_neg.{u}
abbrev h9.{u}:=@if_pos.{u}
set_option Elab.async false
set_option linter.all false
set_option maxRecDepth 100000
set_option maxHeartbeats 4000000
open PySem renaming wpAny_bind->aaa,wpAny_pure->aae,sizeLine->aah,Value->aak,starEach->aaC,Shared->aaD,Addr->aaM,wpAny->aaW,wpAny_call_entry->aa0,model->aa1,wpAny_callSpecial?_slot->aa6,Around->aba,mainGlobals->abc,wpAny_mono->abk,wpAny_newObj_type->abl,wpAny_dictEntries->abm,World->abq,bootBuiltins->abr,wpAny_holding->abt,wpAny_setField_rec->abC,sysModules->abF,mem_of_lookup->abG,wpAny_field->abH,cLine->abI,compareOp->abO,wpAny_dictEpoch->ab2,Expr->aca,foldedSetIterable->acj,sizeLine_eq->ack,backTo->acq,wpAny_seqItems->acu,wpAny_typeNameOfWhole_itemiter->acz,Program->acC,wpAny_typeNameOfWhole_keyiter->acE,wpAny_typeNameOfWhole_valiter->acF,codeAny_builtin->acN,Heap->acP,wpAny_rule->acU,tupleKind_room_in1->acY,wpAny_attempt->ac0,wpAny_passesOwn->ac7,swapsWith->ado,wpAny_isInstance->adp,assignEach->adt,wpAny_setField->adw,FuncData->adA,eval->adB,Paired->adD,wpAny_notOrdered_dict->adI,wpAny_truthy_bool->adM,wpAny_pyIter_list->adN,binaryOp->adO,attributeBase->adP,wpAny_Call_method->adR,wpAny_fieldsOf->aea,wpAny_eqBool_int->aec,codeAny_mono->ael,call_meetsIn->aep,wpAny_execs_nil->aes,behindInMarks->aeu,wpAny_Call_Name_kw->aew,Keyword->aex,Stmt->aeO,wpAny_isOneOf_itemiter->aeR,sliceBounds->aeT,keywordEach->aeU,call_meets->aeV,wpAny_pyIter_slot->aeX,wpAny_typeOf->ae3,wpAny_isOneOf_valiter->ae6,IsPair->afh,wpAny_updateSeq_pair->afi,plainId_quiet->afk,strLen_append->afm,IsItemIter->afq,getItem->aft,wpAny_specialOf->afu,wpAny_of_eq->afx,bindArgs->afJ,firstArgMember->afP,isSubtype_stop->afQ,Scope->afV,seqIndex?->afY,wpAny_collect_seq->afZ,PassesOwn->agc,NameKind->agd
open List renaming length_map->aab,getElem?_eq_getElem->aac,map_cons->aag,length_append->aaj,mem_cons_self->aal,mem_cons_of_mem->aan,getElem?_eq_some_iff->aap,map_map->aaq,getElem?_map->aar,mem_map->aas,length_cons->aat,getD_eq_getElem?_getD->aav,mem_cons->aaw,size_toArray->aax,map_congr_left->aaB,length_take->aaE,map_append->aaG,getElem_mem->aaH,mem_map_of_mem->aaI,all_eq_true->aaJ,mem_singleton->aaK,take_succ_eq_append_getElem->aaL,append_assoc->aaP,mem_append->aaQ,mem_append_right->aaU,sum_cons->aaV,mem_of_getElem?->aaZ,append_nil->aa2,getElem?_set_ne->aa4,range->aa7,replicate->aa9,length_drop->abb,length_range->abd,flatten_cons->abe,mem_of_mem_take->abf,take_append_drop->abg,take_length->abh,length_pos_iff->abi,foldl_cons->abv,set_cons_zero->abw,set_cons_succ->abx,getElem?_eq_none_iff->aby,nodup_cons->abB,perm_append_comm->abD,eq_nil_of_length_eq_zero->abJ,drop_eq_getElem_cons->abK,flatMap_cons->abL,mem_iff_getElem->abM,take_of_length_le->abN,length_set->abQ,all_cons->abT,getElem?_append_right->abW,mem_append_left->abX,zipWith->ab7,pairwise_cons->ace,mem_of_mem_drop->acg,length_zipWith->acn,flatten_append->acp,getElem?_append_left->acs,nodup_nil->acv,length_replicate->acw,getElem?_zipWith->acx,map_nil->acA,mem_flatMap->acI,zipWith_cons_cons->acQ,lookup_cons->acT,any_eq_true->acV,mem_nil_iff->acW,pairwise_iff_getElem->ac4,nil_append->ac9,getElem?_cons_succ->adj,map_take->adl,map_eq_nil_iff->adm,drop_length->adq,not_mem_nil->ads,getElem?_set_self->adx,drop_eq_nil_of_le->adz,length_singleton->adG,length_nil->adH,nodup_append->adS,getElem_take->adT,pairwise_map->adV,foldl_append->adX,perm_ext_iff_of_nodup->ad0,mem_range->ad4,getElem?_zip_eq_some->ad8,exists_mem_of_ne_nil->aeb,reverse_append->aeg,map_id->aeh,replicate_succ->aei,getElem?_range->aej,all_map->aeq,of_mem_zip->aey,find?_cons->aeD,pairwise_singleton->aeE,getElem?_take->aeI,zip_cons_cons->aeJ,map_drop->aeL,ext_getElem?->aeW,getElem?_eq_none->ae8,cons_append->afb,ext_getElem->afc,flatten_nil->aff,getElem_map->afg,filterMap_cons->afr,length->afs,forIn_cons->afv,flatMap_append->afB,mem_filterMap->afI,getElem_range->afL,getElem?_drop->afM,drop_drop->afS,take_sublist->afX,length_erase_of_mem->aga,Perm->age
open PySem.Heap renaming get?_push_of_some->aad,get?_push_size->aam,lt_size->aaA,size_push->ab0,get?_update_self->adF,SameBut->aek
open PySem.W renaming Frag->aai,mg_none_of->abo,nsIn->abE,fnOf->abP,keepIn->acb,openEnds->acH,fencedOpening->adK,findIn->ad5,mg_of->aeK,topFrom->afA,codeIn->afO
open Nat renaming le_refl->aao,ne_of_lt->aaN,le_trans->aaR,lt_of_lt_of_le->aa_,add_sub_cancel_left->abU,gcd->ab_,min_eq_left->acf,lt_irrefl->acr,le_add_right->acD,lt_succ_of_lt->acL,zero_le->acM,ne_of_gt->acX,zero_add->adg,add_assoc->adi,lt_or_ge->adJ,lt_succ_self->aed,lt_of_le_of_lt->aeA,gcd_pos_of_pos_left->aeM,add_le_add->ae1,mul_le_mul->ae2,le_of_lt->afH,gcd_pos_of_pos_right->af9
open Bool renaming and_eq_true->aau,false_ne_true->aaz,eq_iff_iff->abu,or_eq_true->acO,or_eq_false_iff->ac6,eq_false_iff->adQ,false_eq_true->aeF,not_true->afp,not_eq_true'->af1
open Array renaming length_toList->aay,getElem?_toList->aa5,toList_append->abp,getElem?_eq_getElem->ab1,getElem?_eq_none->acR,toList_push->adU,toList_extract->ad2,toList_reverse->ad3,toList_setIfInBounds->afF,perm_iff_toList_perm->afG
open PyProof.Rows renaming wpS_bind->aaF,wpS_pure->aaO,SortSt->aaS,Keyed->aaT,pendingOf->abj,arrOf->abA,wpS_forRange->abS,kindOf->abY,slot_tuple_getitem->acm,wpS_mono->ac2,envOfC->ac5,step_dedup->adn,callWith_type1->adE,evalArgs_none->adZ,wpS_modify->aer,SortKind->aeG,failedOf->aeH,IntsAre->ae_,reverseSlice'->afo,AllBare->afN,KeyOrd->agb
open Option.some renaming inj->aaX
open Int renaming toNat_natCast->aaY,toNat_of_nonneg->abz,mul_ediv_cancel_left->adf,mul_assoc->adk,emod_lt_of_pos->adC,emod_nonneg->adL,natCast_ediv->aee,natCast_dvd_natCast->aeN,le_refl->ae0,mul_le_mul_of_nonneg_right->ae9,natCast_mul->afC,mul_le_mul->afT,eq_of_mul_eq_mul_left->afU,pos_of_mul_pos_right->af_
open PySem.PassesOwn renaming never->aa3,leaving->ada
open PyProof.Rows.KeyOrd renaming kle_trans->aa8,kle_of_klt->abn,kle_refl->ab3
open PySem.F renaming slot_dict_get->abR,plainAttrs_list->abV,entry_dict_get->aci,slot_dict_valueiterator_next->acy,slot_dict_itemiterator_next->acG,plainAttrs_dict->acJ,slot_dict_keyiterator_next->acK,slot_tuple_iterator_next->acS,slot_dict_values->ac_,slot_list_extend->adb,type_list_extend->ade,args_tuple_add_2->aen,entry_tuple_add->aez,args_dict_get_2->aeB,args_dict_get_3->aeC,args_dict_valueiterator_next_1->aeP,slot_tuple_add->aeQ,entry_dict_valueiterator_next->aeY,args_dict_itemiterator_next_1->aeZ,args_dict_keyiterator_next_1->ae5,entry_dict_itemiterator_next->ae7,entry_dict_keyiterator_next->afd,slot_dict_itemiterator_iter->afe,args_tuple_iterator_next_1->afl,entry_tuple_iterator_next->afy,slot_zip_next->afz,args_dict_values_1->afE,entry_dict_values->afR,type_dict_values->af2,slot_tuple_index->af4,plainAttrs_tuple->af5,slot_tuple_count->af6,slot_list_append->af7,type_list_append->af8
open List.Perm renaming append_right->abZ,append_left->ab8,refl->acd
open PySem.W.Fast renaming te14082659384304107361->ab4,te14364793385576792824->ab5,te10274390034422433532->ab6,te4187177175401517315->ab9
open PySem.Calls renaming callWith_builtin->ach,evalArgs_plain->ad1,call_function_entry->ad9,spliced_cons->aev,Name_function_global->afD,spliced_nil->afW
open PySem.Heap.SameBut renaming update->aco
open False renaming elim->acB
open PySem.Obj renaming data_mapFields->acZ,mapSeq->aeS,isFreed_of_fields->ae4,cls_mapFields->af0
open PySem.Builtin.Dict renaming showsAll->ac1
open PySem.Builtin.SmallTypes renaming nextOf->ac3
open Option renaming isSome_map->ac8,map_eq_some_iff->ady,isSome_iff_exists->aem,getD_none->afa
open PySem.Paired renaming length->adh
open PySem.SeqAt renaming EqAt->adu,RcNeAt->agf
open Std.Legacy.Range renaming forIn_eq_forIn_range'->adW
open PySem.Builtin.Tuple renaming tupleItemsOf->adY,tupleHashOf->ad_
open PySem.Builtin.Slice renaming sliceAdjust->ad6,slicePlaces->ad7
open PySem.Builtin.Dict_items renaming ownedTupleFields->aef,ownsTuple->afn
open PySem.Builtin.List renaming listTooLong->aeo
open PySem.Builtin.Range renaming rangeSize->aet
open Prod renaming ext->afj
open PySem.SeqAt.EqAt renaming same->afw,of_refs->afK
open List.Pairwise renaming imp_of_mem->af3
open PySem PySem.Spec PyProof.Rows
variable {a b it t f p z uI uO i1 i2 a1 a2 cX:aaM}{o T ra rb:List aaT}{P prog:acC}{h h':acP}{g':Array GenState}{t' i j k n g base m kt ep bc:Nat}{ch fp:List aaM}{x qual:Str}{N ps loose:List Str}{M:Model}{A:aaM->Prop}{E Q:aak->aaD->Prop}{s:aaD}{pos p2 tp:Pos}{pins:List (aaM×Obj)}{K:aai}{st:aeO}{c tg iter elt:aca}{body:List aeO}{hi:Option Int}{op:CmpOp}{mg:Str->Option aak}{fd:adA}{scope:afV}{ns:List Int}{ys:Array aak}{aD:List aak}{q:aak}{XP:(Str->Option aak)->acP->Prop}{YP:abq->acP->Prop}{env:Env}{js:List (Option Nat)}{vG elts:List aca}{ds:Array DictEntry}{u9:Array aaT}
def zyy {a b:Prop}(x:a)(y:b):a∧b:=⟨x,y⟩
namespace L2
noncomputable def dC (s:aeO):Arguments:=match s with
 | .FunctionDef _ a _ _ _ _ _ _ _ _=>a
 |_=>{posonlyargs:=[],args:=[],vararg:=none,kwonlyargs:=[],kw_defaults:=[],kwarg:=none,defaults:=[]}
noncomputable def bI (s:aeO):List aeO:=match s with
 | .FunctionDef _ _ b _ _ _ _ _ _ _=>b
 |_=>[]
noncomputable def ai (s:aeO):afV:=match s with
 | .FunctionDef _ _ _ _ _ _ sc _ _ _=>sc
 |_=>{kind:=.function,names:=[],isGenerator:=false,isCoroutine:=false}
end L2
namespace Hc
open L2
noncomputable def top (i:Nat):aeO:=PySem.Challenge.pw_hushcards_k17_whole_closed_ones_stay.main.body.getD i (.Pass ⟨0,0,0,0⟩)
noncomputable abbrev hS (s:String)(n:Nat):aak:=.str (Str.ofString s) n
noncomputable abbrev hT (l:List aak):Obj:=⟨.type "tuple",none,.seq l.toArray 0,#[]⟩
noncomputable abbrev hE (P:Params)(s:String)(n:Nat)(v:aak):DictEntry:=⟨PyData.keyHash P (Str.ofString s),hS s n,v⟩
noncomputable abbrev hD (c:aak)(l:List DictEntry)(n:Nat):Obj:=⟨c,none,.dict l.toArray n,#[]⟩
noncomputable abbrev hX (c:aak)(l:List aak):Obj:=⟨c,none,.fields l.toArray,#[]⟩
noncomputable abbrev hC (n q:String)(a:Nat)(l k:Int)(r r1:Nat)(v1 v2:aak)(r2:Nat)(m:Int)(m':Nat):Obj:=hX (.type "code") [hS n a,hS q (a+1),hS "/claim/cut.py" (a+2),.int l 0,.int k 0,.int 0 0,.int 0 0,.int 3 0,.ref r,.bool true,.int 181 0,.ref r1,.none,v1,v2,.ref r2,.int m 0,.int l 0,hS "/claim/cut.py" m']
noncomputable abbrev hF (n q:String)(s:aeO)(kV kN pm:aak)(an:Option aaM)(cd ct:aak):Obj:=⟨.type "function",none,.func (abP n q (dC s) (bI s) (ai s) .none kV kN pm an cd ct),#[]⟩
noncomputable def Kf (P:Params):aai:=
 (nat_lit 2,hD .none [] 0) ::
 (nat_lit 3,hD (.type "dict") [hE P "__name__" 165 (hS "law_hushcards_k17_whole_closed_ones_stay" 405),hE P "__doc__" 166 .none,hE P "__package__" 167 .none,hE P "__loader__" 168 (.builtin "__main__.__loader__#opaque"),hE P "__spec__" 169 .none,hE P "__annotations__" 170 (.ref 6),hE P "__builtins__" 171 (.ref 4),hE P "__file__" 173 (hS "/claim/cut.py" 172),hE P "__cached__" 174 .none,hE P "CardError" 206 (.ref 24),hE P "TooMany" 222 (.ref 37),hE P "greatest_divisor" 233 (.ref 46),hE P "ratio" 242 (.ref 53),hE P "common_bottom" 251 (.ref 60),hE P "cards_at" 259 (.ref 65),hE P "then" 267 (.ref 72),hE P "back" 273 (.ref 77),hE P "MOST_ORDERS" 277 (.int 24 276),hE P "MOST_SPANNED" 279 (.int 120 278),hE P "MOST_PILES_MIXED" 281 (.int 4 280),hE P "counted" 290 (.ref 84),hE P "spread" 304 (.ref 91),hE P "shuffled" 310 (.ref 96),hE P "lessened" 321 (.ref 103),hE P "same" 329 (.ref 110),hE P "both" 345 (.ref 117),hE P "is_closed" 351 (.ref 122),hE P "spanned" 366 (.ref 129),hE P "exchanged" 380 (.ref 136),hE P "pile_cut" 386 (.ref 141),hE P "cut" 392 (.ref 146),hE P "arrangements" 398 (.ref 151),hE P "pile_mix" 404 (.ref 156),hE P "_law_cell_at" 414 (.ref 163),hE P "_law_state" 423 (.ref 170),hE P "_law_take" 433 (.ref 177),hE P "_law_order" 439 (.ref 182),hE P "_law_shuffle" 445 (.ref 187),hE P "_law_row" 451 (.ref 192),hE P "_law_twice" 459 (.ref 199),hE P "_law_lays_back" 465 (.ref 204),hE P "_law_spans" 471 (.ref 209),hE P "law" 477 (.ref 214)] 43) ::
 (nat_lit 15,hT [.type "ValueError"]) ::
 (nat_lit 22,hT []) ::
 (nat_lit 23,hD (.type "dict") [hE P "__module__" 196 (hS "hushcards.errors" 187),hE P "__firstlineno__" 200 (.int 2 199),hE P "__static_attributes__" 201 (.ref 22),hE P "__weakref__" 203 (.ref 25),hE P "__doc__" 204 .none] 3) ::
 (nat_lit 24,⟨.type "type",none,.cls {name:="CardError",bases:=[.type "ValueError"],mro:=[.ref 24,.type "ValueError",.type "Exception",.type "BaseException",.type "object"],ns:=23,qualname:="CardError",subclasses:=[.ref 37]},#[some (.ref 15),none,some (hS "CardError" 189),some (hS "CardError" 197),some (.builtin "ValueError.__new__"),some (.bool true)]⟩) ::
 (nat_lit 25,hX (.type "getset_descriptor") [hS "__weakref__" 202,.ref 24,.builtin "ExceptionGroup.__weakref__",.none]) ::
 (nat_lit 28,hT [.ref 24]) ::
 (nat_lit 35,hT []) ::
 (nat_lit 36,hD (.type "dict") [hE P "__module__" 214 (hS "hushcards.errors" 187),hE P "__firstlineno__" 218 (.int 4 217),hE P "__static_attributes__" 219 (.ref 35),hE P "__doc__" 220 .none] 2) ::
 (nat_lit 37,⟨.type "type",none,.cls {name:="TooMany",bases:=[.ref 24],mro:=[.ref 37,.ref 24,.type "ValueError",.type "Exception",.type "BaseException",.type "object"],ns:=36,qualname:="TooMany"},#[some (.ref 28),none,some (hS "TooMany" 207),some (hS "TooMany" 215),some (.builtin "ValueError.__new__"),some (.bool true)]⟩) ::
 (nat_lit 40,hT []) ::
 (nat_lit 42,hT [hS "one" 228,hS "other" 229,hS "rest" 230]) ::
 (nat_lit 43,hT []) ::
 (nat_lit 45,hC "greatest_divisor" "greatest_divisor" 225 7 2 40 41 (.ref 42) (.ref 43) 44 231 232) ::
 (nat_lit 46,hF "greatest_divisor" "greatest_divisor" (top 4) .none .none (hS "hushcards.fractions" 223) none (.ref 45) .none) ::
 (nat_lit 47,hT []) ::
 (nat_lit 49,hT [hS "top" 237,hS "bottom" 238,hS "divisor" 239]) ::
 (nat_lit 50,hT []) ::
 (nat_lit 52,hC "ratio" "ratio" 234 15 2 47 48 (.ref 49) (.ref 50) 51 240 241) ::
 (nat_lit 53,hF "ratio" "ratio" (top 5) .none .none (hS "hushcards.fractions" 223) none (.ref 52) .none) ::
 (nat_lit 54,hT []) ::
 (nat_lit 56,hT [hS "some" 246,hS "bottom" 247,hS "fraction" 248]) ::
 (nat_lit 57,hT []) ::
 (nat_lit 59,hC "common_bottom" "common_bottom" 243 20 1 54 55 (.ref 56) (.ref 57) 58 249 250) ::
 (nat_lit 60,hF "common_bottom" "common_bottom" (top 6) .none .none (hS "hushcards.fractions" 223) none (.ref 59) .none) ::
 (nat_lit 61,hT []) ::
 (nat_lit 64,hC "cards_at" "cards_at" 254 26 2 61 62 .none .none 63 257 258) ::
 (nat_lit 65,hF "cards_at" "cards_at" (top 8) .none .none (hS "hushcards.orders" 252) none (.ref 64) .none) ::
 (nat_lit 66,hT []) ::
 (nat_lit 68,hT [hS "one" 263,hS "other" 264]) ::
 (nat_lit 69,hT []) ::
 (nat_lit 71,hC "then" "then" 260 28 2 66 67 (.ref 68) (.ref 69) 70 265 266) ::
 (nat_lit 72,hF "then" "then" (top 9) .none .none (hS "hushcards.orders" 252) none (.ref 71) .none) ::
 (nat_lit 73,hT []) ::
 (nat_lit 76,hC "back" "back" 268 30 1 73 74 .none .none 75 271 272) ::
 (nat_lit 77,hF "back" "back" (top 10) .none .none (hS "hushcards.orders" 252) none (.ref 76) .none) ::
 (nat_lit 78,hT []) ::
 (nat_lit 80,hT [hS "shuffle" 285,hS "often" 286,hS "order" 287]) ::
 (nat_lit 81,hT []) ::
 (nat_lit 83,hC "counted" "counted" 282 36 1 78 79 (.ref 80) (.ref 81) 82 288 289) ::
 (nat_lit 84,hF "counted" "counted" (top 15) .none .none (hS "hushcards.shuffles" 274) none (.ref 83) .none) ::
 (nat_lit 85,hT []) ::
 (nat_lit 87,hT [hS "weights" 294,hS "shuffle" 295,hS "gathered" 296,hS "order" 297,hS "often" 298,hS "row" 299,hS "weight" 300,hS "changed" 301]) ::
 (nat_lit 88,hT []) ::
 (nat_lit 90,hC "spread" "spread" 291 41 2 85 86 (.ref 87) (.ref 88) 89 302 303) ::
 (nat_lit 91,hF "spread" "spread" (top 16) .none .none (hS "hushcards.shuffles" 274) none (.ref 90) .none) ::
 (nat_lit 92,hT []) ::
 (nat_lit 95,hC "shuffled" "shuffled" 305 48 2 92 93 .none .none 94 308 309) ::
 (nat_lit 96,hF "shuffled" "shuffled" (top 17) .none .none (hS "hushcards.shuffles" 274) none (.ref 95) .none) ::
 (nat_lit 97,hT []) ::
 (nat_lit 99,hT [hS "often" 314,hS "divisor" 315,hS "number" 316,hS "least" 317,hS "order" 318]) ::
 (nat_lit 100,hT []) ::
 (nat_lit 102,hC "lessened" "lessened" 311 55 1 97 98 (.ref 99) (.ref 100) 101 319 320) ::
 (nat_lit 103,hF "lessened" "lessened" (top 18) .none .none (hS "hushcards.shuffles" 274) none (.ref 102) .none) ::
 (nat_lit 104,hT []) ::
 (nat_lit 106,hT [hS "one" 325,hS "other" 326]) ::
 (nat_lit 107,hT []) ::
 (nat_lit 109,hC "same" "same" 322 63 2 104 105 (.ref 106) (.ref 107) 108 327 328) ::
 (nat_lit 110,hF "same" "same" (top 19) .none .none (hS "hushcards.shuffles" 274) none (.ref 109) .none) ::
 (nat_lit 111,hT []) ::
 (nat_lit 113,hT [hS "one" 333,hS "other" 334,hS "often" 335,hS "first" 336,hS "number" 337,hS "second" 338,hS "more" 339,hS "order" 340,hS "least" 341,hS "orders" 342]) ::
 (nat_lit 114,hT []) ::
 (nat_lit 116,hC "both" "both" 330 65 2 111 112 (.ref 113) (.ref 114) 115 343 344) ::
 (nat_lit 117,hF "both" "both" (top 20) .none .none (hS "hushcards.shuffles" 274) none (.ref 116) .none) ::
 (nat_lit 118,hT []) ::
 (nat_lit 121,hC "is_closed" "is_closed" 346 78 1 118 119 .none .none 120 349 350) ::
 (nat_lit 122,hF "is_closed" "is_closed" (top 21) .none .none (hS "hushcards.shuffles" 274) none (.ref 121) .none) ::
 (nat_lit 123,hT []) ::
 (nat_lit 125,hT [hS "many" 355,hS "orders" 356,hS "start" 357,hS "met" 358,hS "fresh" 359,hS "further" 360,hS "reached" 361,hS "order" 362,hS "follower" 363]) ::
 (nat_lit 126,hT []) ::
 (nat_lit 128,hC "spanned" "spanned" 352 86 2 123 124 (.ref 125) (.ref 126) 127 364 365) ::
 (nat_lit 129,hF "spanned" "spanned" (top 22) .none .none (hS "hushcards.shuffles" 274) none (.ref 128) .none) ::
 (nat_lit 130,hT []) ::
 (nat_lit 132,hT [hS "many" 370,hS "piles" 371,hS "sources" 372,hS "order" 373,hS "pile" 374,hS "source" 375,hS "place" 376,hS "origin" 377]) ::
 (nat_lit 133,hT []) ::
 (nat_lit 135,hC "exchanged" "exchanged" 367 102 3 130 131 (.ref 132) (.ref 133) 134 378 379) ::
 (nat_lit 136,hF "exchanged" "exchanged" (top 23) .none .none (hS "hushcards.shuffles" 274) none (.ref 135) .none) ::
 (nat_lit 137,hT []) ::
 (nat_lit 140,hC "pile_cut" "pile_cut" 381 108 2 137 138 .none .none 139 384 385) ::
 (nat_lit 141,hF "pile_cut" "pile_cut" (top 24) .none .none (hS "hushcards.shuffles" 274) none (.ref 140) .none) ::
 (nat_lit 142,hT []) ::
 (nat_lit 145,hC "cut" "cut" 387 111 2 142 143 .none .none 144 390 391) ::
 (nat_lit 146,hF "cut" "cut" (top 25) .none .none (hS "hushcards.shuffles" 274) none (.ref 145) .none) ::
 (nat_lit 147,hT []) ::
 (nat_lit 150,hC "arrangements" "arrangements" 393 113 1 147 148 .none .none 149 396 397) ::
 (nat_lit 151,hF "arrangements" "arrangements" (top 26) .none .none (hS "hushcards.shuffles" 274) none (.ref 150) .none) ::
 (nat_lit 152,hT []) ::
 (nat_lit 155,hC "pile_mix" "pile_mix" 399 121 2 152 153 .none .none 154 402 403) ::
 (nat_lit 156,hF "pile_mix" "pile_mix" (top 27) .none .none (hS "hushcards.shuffles" 274) none (.ref 155) .none) ::
 (nat_lit 157,hT []) ::
 (nat_lit 159,hT [hS "script" 410,hS "k" 411]) ::
 (nat_lit 160,hT []) ::
 (nat_lit 162,hC "_law_cell_at" "_law_cell_at" 407 126 2 157 158 (.ref 159) (.ref 160) 161 412 413) ::
 (nat_lit 163,hF "_law_cell_at" "_law_cell_at" (top 29) .none .none (hS "law_hushcards_k17_whole_closed_ones_stay" 405) none (.ref 162) .none) ::
 (nat_lit 164,hT []) ::
 (nat_lit 166,hT [hS "script" 418,hS "k" 419,hS "cell" 420]) ::
 (nat_lit 167,hT []) ::
 (nat_lit 169,hC "_law_state" "_law_state" 415 130 2 164 165 (.ref 166) (.ref 167) 168 421 422) ::
 (nat_lit 170,hF "_law_state" "_law_state" (top 30) .none .none (hS "law_hushcards_k17_whole_closed_ones_stay" 405) none (.ref 169) .none) ::
 (nat_lit 171,hT []) ::
 (nat_lit 173,hT [hS "state" 427,hS "many" 428,hS "found" 429,hS "mixed" 430]) ::
 (nat_lit 174,hT []) ::
 (nat_lit 176,hC "_law_take" "_law_take" 424 135 2 171 172 (.ref 173) (.ref 174) 175 431 432) ::
 (nat_lit 177,hF "_law_take" "_law_take" (top 31) .none .none (hS "law_hushcards_k17_whole_closed_ones_stay" 405) none (.ref 176) .none) ::
 (nat_lit 178,hT []) ::
 (nat_lit 181,hC "_law_order" "_law_order" 434 144 2 178 179 .none .none 180 437 438) ::
 (nat_lit 182,hF "_law_order" "_law_order" (top 32) .none .none (hS "law_hushcards_k17_whole_closed_ones_stay" 405) none (.ref 181) .none) ::
 (nat_lit 183,hT []) ::
 (nat_lit 186,hC "_law_shuffle" "_law_shuffle" 440 147 2 183 184 .none .none 185 443 444) ::
 (nat_lit 187,hF "_law_shuffle" "_law_shuffle" (top 33) .none .none (hS "law_hushcards_k17_whole_closed_ones_stay" 405) none (.ref 186) .none) ::
 (nat_lit 188,hT []) ::
 (nat_lit 191,hC "_law_row" "_law_row" 446 168 2 188 189 .none .none 190 449 450) ::
 (nat_lit 192,hF "_law_row" "_law_row" (top 34) .none .none (hS "law_hushcards_k17_whole_closed_ones_stay" 405) none (.ref 191) .none) ::
 (nat_lit 193,hT []) ::
 (nat_lit 195,hT [hS "shuffle" 455,hS "found" 456]) ::
 (nat_lit 196,hT []) ::
 (nat_lit 198,hC "_law_twice" "_law_twice" 452 173 1 193 194 (.ref 195) (.ref 196) 197 457 458) ::
 (nat_lit 199,hF "_law_twice" "_law_twice" (top 35) .none .none (hS "law_hushcards_k17_whole_closed_ones_stay" 405) none (.ref 198) .none) ::
 (nat_lit 200,hT []) ::
 (nat_lit 203,hC "_law_lays_back" "_law_lays_back" 460 180 2 200 201 .none .none 202 463 464) ::
 (nat_lit 204,hF "_law_lays_back" "_law_lays_back" (top 36) .none .none (hS "law_hushcards_k17_whole_closed_ones_stay" 405) none (.ref 203) .none) ::
 (nat_lit 205,hT []) ::
 (nat_lit 208,hC "_law_spans" "_law_spans" 466 185 2 205 206 .none .none 207 469 470) ::
 (nat_lit 209,hF "_law_spans" "_law_spans" (top 37) .none .none (hS "law_hushcards_k17_whole_closed_ones_stay" 405) none (.ref 208) .none) ::
 (nat_lit 210,hT []) ::
 (nat_lit 213,hC "law" "law" 472 196 1 210 211 .none .none 212 475 476) ::
 (nat_lit 214,hF "law" "law" (top 38) .none .none (hS "law_hushcards_k17_whole_closed_ones_stay" 405) none (.ref 213) .none)::[]
noncomputable def vw:acC:={PySem.Challenge.pw_hushcards_k17_whole_closed_ones_stay with main:={PySem.Challenge.pw_hushcards_k17_whole_closed_ones_stay.main with body:=([1,2,4,5,6,8,9,10,12,13,14,15,16,17,18,19,20,21,22,23,24,25,26,27,29,30,31,32,33,34,35,36,37,38]:List Nat).map top}}
noncomputable def hk:PySem.W.Hook:=PySem.W.kHook Kf [2,3,15,22,23,24,25,28,35,36,37,40,42,43,45,46,47,49,50,52,53,54,56,57,59,60,61,64,65,66,68,69,71,72,73,76,77,78,80,81,83,84,85,87,88,90,91,92,95,96,97,99,100,102,103,104,106,107,109,110,111,113,114,116,117,118,121,122,123,125,126,128,129,130,132,133,135,136,137,140,141,142,145,146,147,150,151,152,155,156,157,159,160,162,163,164,166,167,169,170,171,173,174,176,177,178,181,182,183,186,187,188,191,192,193,195,196,198,199,200,203,204,205,208,209,210,213,214] (λ_=>by kernel_rfl)
noncomputable abbrev O7:=PySem.Challenge.rw_hushcards_k17_whole_closed_ones_stay.row
open PySem.W PyProof.Rows PySem.Calls in
noncomputable abbrev hL (s:aaD):=(PySem.W.openSeen vw [] (PySem.importedModules O7.prog.main.body) (λs=>PySem.W.xlAt vw [] s&&PySem.W.recOk (PySem.W.RowW.records O7.toRowW) s) true s,hk.obs s)
def U4 {X:Option aaD}{α:Type}{f:aaD->α}{v:α}(e:X.map f=some v):∃s,X=some s/\f s=v:=ady.mp e
open PySem.W PyProof.Rows PySem.Calls in
def l1 (w:abq):(acH treeTable O7.prog w 2770).map (λs=>((hL s).1.1,(hL s).1.2.1,(hL s).1.2.2.1))=some (expectedOf vw,bltViewBooted,true):=by
 unfold hL acH adK afA;rw[ab4,ab5,ab6,ab9]
 kernel_rfl
open PySem.W PyProof.Rows PySem.Calls in
def l2 (w:abq):(acH treeTable O7.prog w 2770).map (λs=>((hL s).1.2.2.2.1,(hL s).1.2.2.2.2.1,(hL s).1.2.2.2.2.2.2.1,(hL s).1.2.2.2.2.2.2.2.2))=some (true,pinGoodD (drecsOf vw),plainGoodD vw [],clsGoodW vw []):=by
 unfold hL acH adK afA;rw[ab4,ab5,ab6,ab9]
 kernel_rfl
open PySem.W PyProof.Rows PySem.Calls in
def l3 (w:abq):(acH treeTable O7.prog w 2770).map (λs=>(hL s).1.2.2.2.2.2.1)=some (plainGoodE vw (looseW vw [])):=by
 unfold hL acH adK afA;rw[ab4,ab5,ab6,ab9]
 kernel_rfl
open PySem.W PyProof.Rows PySem.Calls in
def l4 (w:abq):(acH treeTable O7.prog w 2770).map (λs=>((hL s).1.2.2.2.2.2.2.2.1,(hL s).2))=some (wideGood vw,hk.val w):=by
 unfold hL acH adK afA;rw[ab4,ab5,ab6,ab9]
 kernel_rfl
theorem left:PySem.W.LeftO O7.prog vw [] (λs=>PySem.W.xlAt vw [] s&&PySem.W.recOk (PySem.W.RowW.records O7.toRowW) s) hk.obs hk.val 2770:=λw=>by
 obtain⟨s,e,a⟩:=U4 (l1 w);have b:=l2 w;have c:=l3 w;have d:=l4 w;rw[e] at b c d ⊢;have b:=aaX b;have d:=aaX d;simp only[Prod.mk.injEq] at a b d;exact congrArg some (afj (afj a.1 (afj a.2.1 (afj a.2.2 (afj b.1 (afj b.2.1 (afj (aaX c) (afj b.2.2.1 (afj d.1 b.2.2.2)))))))) d.2)
end Hc
namespace L2
noncomputable abbrev Key:=Sum Int Str
noncomputable def vI:Key->aak->Bool
 | .inl k,v=>Value.isInt k v
 | .inr x,v=>Value.isStrOf x v
noncomputable def Wz (w:abq):Key->Int
 | .inl k=>hashInt k
 | .inr x=>hashStr w x
theorem cG:∀{k:Key} {v:aak},vI k v=true->(∃i t,k=Sum.inl i/\v=Value.int i t)\/(∃x t,k=Sum.inr x/\v=Value.str x t)
 | .inl i,v,h=>by
  obtain⟨t,e⟩:=Value.isInt_shape h;exact .inl ⟨i,t,rfl,e⟩
 | .inr x,v,h=>by
  obtain⟨t,e⟩:=Value.isStrOf_shape h;exact .inr ⟨x,t,rfl,e⟩
def ED (i:Int)(t:Tok):vI (.inl i) (.int i t)=true:=by simp[vI,Value.isInt]
def EE (x:Str)(t:Tok):vI (.inr x) (.str x t)=true:=by simp[vI,Value.isStrOf]
theorem PL (a b:Int):decide ((Sum.inl a:Key)=Sum.inl b)=(a==b):=by
 by_cases e:a=b
 ·subst e;simp
 ·have h:¬(Sum.inl a:Key)=Sum.inl b:=λq=>e (Sum.inl.inj q);rw[hV h];exact (beq_eq_false_iff_ne.mpr e).symm
def PM (a b:Str):decide ((Sum.inr a:Key)=Sum.inr b)=decide (a=b):=by
 by_cases e:a=b
 ·simp
 ·have h:¬(Sum.inr a:Key)=Sum.inr b:=λq=>e (Sum.inr.inj q);rw[hV h,hV e]
def PN (a:Int)(b:Str):decide ((Sum.inl a:Key)=Sum.inr b)=false:=hV (λq=>nomatch q)
def PQ (a:Str)(b:Int):decide ((Sum.inr a:Key)=Sum.inl b)=false:=hV (λq=>nomatch q)
noncomputable def dR (prog:acC)(w:abq):PySem.KeyKind prog w Key where
 is:=vI
 hash:=Wz w
 inj:=λv a b ha hb=>by
  rcases cG ha with⟨i,t,rfl,rfl⟩|⟨x,t,rfl,rfl⟩
  ·rcases cG hb with⟨j,u,rfl,e⟩|⟨y,u,rfl,e⟩
   ·injection e with e1 _;rw[e1]
   ·exact nomatch e
  ·rcases cG hb with⟨j,u,rfl,e⟩|⟨y,u,rfl,e⟩
   ·exact nomatch e
   ·injection e with e1 _;rw[e1]
 byValue:=λk v h=>by
  rcases cG h with⟨i,t,rfl,rfl⟩|⟨x,t,rfl,rfl⟩<;>rfl
 pyHash:=λhv h=>by
  rcases cG hv with⟨i,t,rfl,rfl⟩|⟨x,t,rfl,rfl⟩
  ·exact wpAny_pyHash_int h
  ·exact wpAny_pyHash_str h
 eqBool:=λhu hv h=>by
  rcases cG hu with⟨i,t,rfl,rfl⟩|⟨x,t,rfl,rfl⟩
  ·rcases cG hv with⟨j,u,rfl,rfl⟩|⟨y,u,rfl,rfl⟩
   ·rw[PL] at h;exact aec h
   ·rw[PN] at h;exact SeqAt.EqAt.int_str i t y u _ _ _ _ h
  ·rcases cG hv with⟨j,u,rfl,rfl⟩|⟨y,u,rfl,rfl⟩
   ·rw[PQ] at h;exact SeqAt.EqAt.str_int x t j u _ _ _ _ h
   ·rw[PM] at h;exact wpAny_eqBool_str h
 «strs»:=λk x t v h=>by
  rcases cG h with⟨i,u,rfl,e⟩|⟨y,u,rfl,e⟩
  ·exact nomatch e
  ·injection e with e1 _
   subst e1;cases v<;>rfl
def yQ (prog:acC)(w:abq)(i:Int)(t:Tok):(dR prog w).is (.inl i) (.int i t)=true:=ED i t
def yR (prog:acC)(w:abq)(x:Str)(t:Tok):(dR prog w).is (.inr x) (.str x t)=true:=EE x t
end L2
namespace L2
inductive V where
 |non|bl (b:Bool)|int (i:Int)|str (x:Str)|byt (b:Array UInt8)|flt (b:UInt64)|ref (a:aaM)|ty (n:String)
 deriving DecidableEq
def aL:V->aak->Prop
 | .non,u=>u=Value.none
 | .bl b,u=>u=Value.bool b
 | .int i,u=>∃t,u=Value.int i t
 | .str x,u=>∃t,u=Value.str x t
 | .byt b,u=>∃t,u=Value.bytes b t
 | .flt b,u=>∃t,u=Value.float b t
 | .ref a,u=>u=Value.ref a
 | .ty n,u=>u=Value.type n
abbrev aV:List V->List aak->Prop:=adD aL
def aV.length {xs:List V}{us:List aak}(r:aV xs us):xs.length=us.length:=adh r
theorem aV.get:∀{xs:List V} {us:List aak} {i:Nat} {x:V},aV xs us->xs[i]? = some x->∃u,us[i]? = some u/\aL x u
 |_,_,_,_,.nil,e=>by simp at e
 |_,_,0,_,.cons r _,e=>by simp at e;subst e;exact⟨_,rfl,r⟩
 |_,_,i+1,x,.cons _ t,e=>by
  obtain⟨u,h1,h2⟩:=aV.get t (by simpa using e);exact⟨u,by simpa using h1,h2⟩
theorem aV.set {x:V}{u:aak}(r:aL x u):∀{xs:List V} {us:List aak} (i:Nat),aV xs us->aV (xs.set i x) (us.set i u)
 |_,_,_,.nil=>.nil
 |_,_,0,.cons _ t=>.cons r t
 |_,_,i+1,.cons q t=>.cons q (aV.set r i t)
theorem aV.append:∀{xs ys:List V} {us ws:List aak},aV xs us->aV ys ws->aV (xs++ys) (us++ws)
 |_,_,_,_,.nil,s=>s
 |_,_,_,_,.cons r t,s=>.cons r (aV.append t s)
theorem aV.take:∀{xs:List V} {us:List aak} (n:Nat),aV xs us->aV (xs.take n) (us.take n)
 |_,_,0,_=>.nil
 |_,_,_+1,.nil=>.nil
 |_,_,n+1,.cons r t=>.cons r (aV.take n t)
theorem aV.drop:∀{xs:List V} {us:List aak} (n:Nat),aV xs us->aV (xs.drop n) (us.drop n)
 |_,_,0,r=>r
 |_,_,_+1,.nil=>.nil
 |_,_,n+1,.cons _ t=>aV.drop n t
def mR:Option V->Option aak->Prop
 |some v,some u=>aL v u
 |none,none=>True
 |_,_=>False
def KV {κ:Type}:List (κ×V)->List (κ×aak)->Prop:=adD λ(p:κ×V) (q:κ×aak)=>p.1=q.1/\aL p.2 q.2
noncomputable def kV:Key->V
 | .inl i=>.int i
 | .inr x=>.str x
inductive HO where
 |lst (xs:List V)
 |tup (xs:List V)
 |dK (aX:List (Key×V))|dT (aX:List (List Key×V))
 |set (S:Int->Bool) (n:Nat)
 |ins (C dx:aaM) (fs:List (Str×V))
 |own (x:aaM)
 |xd (fs:List (Str×V))
 |met (f x:aaM)
 |rng (lo hi:Int)
 |frz (o:Obj) (u:HO)
 |tbl (ps:Array aak)
 |ext (φ:acP->Prop)
noncomputable abbrev Hp:=aaM->Option HO
noncomputable def cT (H:Hp)(a:aaM)(o:HO):Hp:=λb=>if b=a then some o else H b
def bj {H:Hp}{o:HO}:cT H a o a=some o:=by unfold cT;rw[h9 rfl]
def aI {H:Hp}{o:HO}(h:b≠a):cT H a o b=H b:=by unfold cT;rw[hZ h]
theorem Tf {H:Hp}{o u:HO}(h:H a=some o)(h':H b=some u)(d:o≠u):a≠b:=by
 intro e;subst e;rw[h] at h';exact d (aaX h')
theorem bX {H:Hp}{o:HO}(h:H a=some o)(h':H b=none):a≠b:=by
 intro e;subst e;rw[h] at h';cases h'
section
variable (P:acC)(w:abq)
def cP (H:Hp)(h:acP)(a:aaM):HO->Prop
 | .lst xs=>xs.length<=aah/\∃(aD:List aak) (n:Nat),aV xs aD/\h.get? a=some {cls:=.type "list",data:=.seq aD.toArray n}
 | .tup xs=>xs.length<=aah/\∃aD:List aak,aV xs aD/\IsTup h a aD.toArray/\∃n,h.get? a=some {cls:=.type "tuple",data:=.seq aD.toArray n}
 | .dK aX=>aX.length<=aah/\(a==abF)=false/\∃vs,KV aX vs/\h.DictOf (dR P w) a vs
 | .dT aX=>aX.length<=aah/\(a==abF)=false/\∃xs:List (List Key×aaM×aak),
   adD (λ(p:List Key×V) (q:List Key×aaM×aak)=>p.1=q.1/\H q.2.1=some (.tup (p.1.map kV))/\aL p.2 q.2.2) aX xs/\
   ∃o es ep,h.get? a=some o/\o.ExactDict/\o.data=.dict es ep/\es.toList=xs.map (entryOfKey (tupleKind (dR P w)))/\(xs.map (·.1)).Nodup
 | .set S n=>h.SetOf (intKind P w) a S n
 | .ins C dx fs=>H dx=some (.own a)/\fs.length<=1000/\dx≠a/\h.get? a=some (PySem.W.instObj C dx)/\
   ∃mA,h.Ns1 dx mA/\(∀f,mR (fs.lookup f) (mA f))/\PySem.Within mA (fs.map (·.1))
 | .own _=>∃o,h.get? a=some o
 | .xd fs=>∃mA,h.Ns1 a mA/\∀f,mR (fs.lookup f) (mA f)
 | .rng lo hi=>∃t u v,h.get? a=some {cls:=.type "range",data:=.fields #[.int lo t,.int hi u,.int 1 v]}
 | .frz o u=>h.get? a=some o/\cP H h a u
 | .tbl ps=>h.get? a=some {cls:=.none,data:=.fields ps}
 | .met f x=>h.get? a=some (PySem.W.methodObj (.ref f) (.ref x))
 | .ext φ=>φ h/\(∃o,h.get? a=some o)/\∀h1 h2:acP,φ h1->(∀o,h1.get? a=some o->h2.get? a=some o)->φ h2
def jn (H:Hp)(h:acP):Prop:=∀a o,H a=some o->cP P w H h a o
end
section
variable {w:abq}{H H':Hp}{o:HO}
theorem cP.lt (x:cP P w H h a o):a<h.objs.size:=by
 cases o with
 |lst xs=>obtain⟨_,_,_,_,e⟩:=x;exact aaA e
 |tup xs=>obtain⟨_,_,_,p,_⟩:=x;exact p.lt
 |dK aX=>obtain⟨_,_,_,_,o,_,_,e,_⟩:=x;exact aaA e
 |dT aX=>obtain⟨_,_,_,_,o,_,_,e,_⟩:=x;exact aaA e
 |set S n=>obtain⟨o,_,_,_,e,_⟩:=x;exact aaA e
 |ins C dx fs=>obtain⟨_,_,_,e,_⟩:=x;exact aaA e
 |own y=>obtain⟨_,e⟩:=x;exact aaA e
 |xd fs=>obtain⟨_,⟨_,_,_,e,_⟩,_⟩:=x;exact aaA e
 |rng lo hi=>obtain⟨_,_,_,e⟩:=x;exact aaA e
 |frz ob u=>obtain⟨e,_⟩:=x;exact aaA e
 |tbl ps=>exact aaA (show h.get? a=some _ from x)
 |met f y=>exact aaA (show h.get? a=some _ from x)
 |ext φ=>obtain⟨_,⟨_,e⟩,_⟩:=x;exact aaA e
theorem Paired.mapP {α β:Type}{F G:α->β->Prop}:∀{l₁:List α} {l₂:List β},adD F l₁ l₂->(∀a b,F a b->G a b)->adD G l₁ l₂
 |_,_,.nil,_=>.nil
 |_,_,.cons r t,f=>.cons (f _ _ r) (Paired.mapP t f)
theorem cP.stay (x:cP P w H h a o)(k:∀b u,(b=a\/H b=some (.own a))->h.get? b=some u->h'.get? b=some u)
  (ho:∀b,H b=some (.own a)->H' b=some (.own a)) (ht:∀b xs,H b=some (.tup xs)->H' b=some (.tup xs)):cP P w H' h' a o:=by
 induction o with
 |lst xs=>obtain⟨z,aD,n,r,e⟩:=x;exact⟨z,aD,n,r,k _ _ (.inl rfl) e⟩
 |tup xs=>obtain⟨z,aD,r,⟨ob,e,c⟩,n2,e2⟩:=x;exact⟨z,aD,r,⟨ob,k _ _ (.inl rfl) e,c⟩,n2,k _ _ (.inl rfl) e2⟩
 |dK aX=>obtain⟨z,y,vs,r,ob,es,ep,e,c⟩:=x;exact⟨z,y,vs,r,ob,es,ep,k _ _ (.inl rfl) e,c⟩
 |dT aX=>
  obtain⟨z,y,xs,r,ob,es,ep,e,c⟩:=x;exact⟨z,y,xs,Paired.mapP r λp q z=>⟨z.1,ht _ _ z.2.1,z.2.2⟩,ob,es,ep,k _ _ (.inl rfl) e,c⟩
 |set S n=>obtain⟨ob,es,ep,t,e,c⟩:=x;exact⟨ob,es,ep,t,k _ _ (.inl rfl) e,c⟩
 |ins C dx fs=>
  obtain⟨d,z,ne,e,mA,⟨od,es,ep,e2,c⟩,r⟩:=x;exact⟨ho _ d,z,ne,k _ _ (.inl rfl) e,mA,⟨od,es,ep,k _ _ (.inr d) e2,c⟩,r⟩
 |own y=>obtain⟨ob,e⟩:=x;exact⟨ob,k _ _ (.inl rfl) e⟩
 |xd fs=>obtain⟨mA,⟨od,es,ep,e,c⟩,r⟩:=x;exact⟨mA,⟨od,es,ep,k _ _ (.inl rfl) e,c⟩,r⟩
 |rng lo hi=>obtain⟨t,u,v,e⟩:=x;exact⟨t,u,v,k _ _ (.inl rfl) e⟩
 |frz ob u ih=>obtain⟨e,q⟩:=x;exact⟨k _ _ (.inl rfl) e,ih q⟩
 |tbl ps=>
  have e:=x;exact k a _ (.inl rfl) e
 |met f y=>
  have e:=x;exact k a _ (.inl rfl) e
 |ext φ=>obtain⟨p,⟨o,e⟩,st⟩:=x;exact⟨st _ _ p λo q=>k _ _ (.inl rfl) q,⟨o,k _ _ (.inl rfl) e⟩,st⟩
def jn.lt (x:jn P w H h)(e:H a=some o):a<h.objs.size:=(x a o e).lt
theorem jn.fresh (x:jn P w H h)(e:h.objs.size<=a):H a=none:=by
 cases q:H a with
 |none=>rfl
 |some u=>exact absurd (aa_ (x.lt q) e) (acr _)
def jn.kept (x:jn P w H h)(k:∀b u,h.get? b=some u->h'.get? b=some u):jn P w H h':=λa o e=>
 (x a o e).stay (λb u _ q=>k b u q) (λ_ q=>q) λ_ _ q=>q
theorem jn.laid (x:jn P w H h)(k:∀b u,h.get? b=some u->h'.get? b=some u)(hp:h.objs.size<=a)(new:cP P w (cT H a o) h' a o):jn P w (cT H a o) h':=λb u e=>by
 have hn:=x.fresh hp;by_cases hb:b=a
 ·subst hb;rw[bj] at e;cases e;exact new
 ·rw[aI hb] at e;exact (x b u e).stay (λc v _ q=>k c v q) (λc q=>by rw[aI (bX q hn)];exact q) λc xs q=>by rw[aI (bX q hn)];exact q
end
def Rd (H:Hp)(a:aaM)(u:HO):Prop:=H a=some u\/∃o,H a=some (.frz o u)
theorem Rd.ok {w:abq}{H:Hp}{u:HO}(r:Rd H a u)(x:jn P w H h):cP P w H h a u:=by
 rcases r with r|⟨o,r⟩
 ·exact x a u r
 ·obtain⟨_,q⟩:=x a _ r;exact q
def SV:Option HO->Prop
 |some (.lst _)=>True
 |some (.dK _)=>True
 |some (.dT _)=>True
 |some (.set _ _)=>True
 |some (.ins _ _ _)=>True
 |some (.ext _)=>True
 |_=>False
section
variable {w:abq}{H:Hp}{x e:aaM}{o':HO}
theorem jn.write (ok:jn P w H h)(mu:SV (H x))(he:e=x\/H e=some (.own x))(k:∀b u,b≠e->h.get? b=some u->h'.get? b=some u)(S7:∃u,h'.get? e=some u)
  (new:cP P w (cT H x o') h' x o'):jn P w (cT H x o') h':=λb u q=>by
 have Vv:∀c y,H c=some (.own y)->c≠x:=λc y r z=>by subst z;rw[r] at mu;exact mu
 have XX:∀c xs,H c=some (.tup xs)->c≠x:=λc xs r z=>by subst z;rw[r] at mu;exact mu
 by_cases hb:b=x
 ·subst hb;rw[bj] at q;cases q;exact new
 ·rw[aI hb] at q;by_cases hbe:b=e
  ·have q':H b=some (.own x):=by
    rcases he with z|z
    ·exact absurd (hbe.trans z) hb
    ·rw[hbe];exact z
   rw[q] at q';cases q';obtain⟨v,hv⟩:=S7;exact⟨v,by rw[hbe];exact hv⟩
  ·refine (ok b u q).stay (λc v hc r=>k c v ?_ r) (λc r=>by rw[aI (Vv c b r)];exact r) λc xs r=>by rw[aI (XX c xs r)];exact r
   rcases hc with rfl|hc
   ·exact hbe
   ·rintro rfl;rcases he with z|z
    ·exact Vv c b hc z
    ·rw[hc] at z;cases z;exact hb rfl
end
structure Un (fs ex:List aaM)(H H':Hp)(h h':acP):Prop where
 keep:∀b o,h.get? b=some o->H b=none->b∉fs->b∉ex->h'.get? b=some o
 slot:∀b o,h.get? b=some o->H b=none->b∈fs->b∉ex->∃sl,h'.get? b=some {o with slots:=sl}
 free:∀b o,h.get? b=some o->H b=none->b∉ex->H' b=none
 there:∀b o,h.get? b=some o->b∉ex->∃o',h'.get? b=some o'
 tups:∀b xs,H b=some (.tup xs)->H' b=some (.tup xs)
 frzs:∀b o u,H b=some (.frz o u)->H' b=some (.frz o u)
 tbls:∀b ps,H b=some (.tbl ps)->∃more,H' b=some (.tbl (ps++more))
section
variable {fs fs' ex ex':List aaM}{H H1 H2:Hp}{h1 h2:acP}{x e:aaM}{o:HO}
def Un.any (u:Un fs ex H H1 h h1){ob:Obj}(q:h.get? b=some ob)(n:H b=none)(hx:b∉ex):∃sl,h1.get? b=some {ob with slots:=sl}:=by
 by_cases hb:b∈fs
 ·exact u.slot b ob q n hb hx
 ·exact⟨ob.slots,u.keep b ob q n hb hx⟩
def Un.kept (k:∀b u,h.get? b=some u->h'.get? b=some u):Un fs ex H H h h' :=
 ⟨λb ob q _ _ _=>k b ob q,λb ob q _ _ _=>⟨ob.slots,k b ob q⟩,λ_ _ _ n _=>n,λb ob q _=>⟨ob,k b ob q⟩,λ_ _ q=>q,λ_ _ _ q=>q,λ_ ps q=>⟨#[],by rw[q];simp⟩⟩
def Un.refl:Un fs ex H H h h:=Un.kept λ_ _ q=>q
def Un.laid (k:∀b u,h.get? b=some u->h'.get? b=some u)(hp:h.objs.size<=a)(hn:H a=none):Un fs ex H (cT H a o) h h' where
 keep:=λb u q _ _ _=>k b u q
 slot:=λb u q _ _ _=>⟨u.slots,k b u q⟩
 free:=λb u q n _=>by rw[aI (aaN (aa_ (aaA q) hp))];exact n
 there:=λb u q _=>⟨u,k b u q⟩
 tups:=λb xs q=>by rw[aI (bX q hn)];exact q
 frzs:=λb u xs q=>by rw[aI (bX q hn)];exact q
 tbls:=λb ps q=>⟨#[],by rw[aI (bX q hn),q];simp⟩
theorem Un.write (mu:SV (H x))(he:e=x\/H e=some (.own x))(k:∀b u,b≠e->h.get? b=some u->h'.get? b=some u)(S7:∃u,h'.get? e=some u):Un fs ex H (cT H x o) h h':=by
 have hx:∀b,H b=none->b≠x:=λb n z=>by subst z;rw[n] at mu;exact mu
 have hb:∀b,H b=none->b≠e:=λb n z=>by
  subst z;rcases he with r|r
  ·exact hx b n r
  ·rw[n] at r;cases r
 have hm:∀b u,H b=some u->¬SV (some u)->b≠x:=λb u q nm z=>by subst z;rw[q] at mu;exact nm mu
 refine⟨λb u q n _ _=>k b u (hb b n) q,λb u q n _ _=>⟨u.slots,k b u (hb b n) q⟩,λb u q n _=>by rw[aI (hx b n)];exact n,λb u q _=>?_,
  λb xs q=>by rw[aI (hm b _ q λz=>z)];exact q,λb u xs q=>by rw[aI (hm b _ q λz=>z)];exact q,λb ps q=>⟨#[],by rw[aI (hm b _ q λz=>z),q];simp⟩⟩
 by_cases hbe:b=e
 ·subst hbe;exact S7
 ·exact⟨u,k b u hbe q⟩
end
noncomputable def Yr (h:acP)(H:Hp):List aaM:=(aa7 h.objs.size).filter λa=>(H a).isSome
noncomputable def EF (h:acP)(H:Hp):acP:=PySem.W.hideAll h (Yr h H)
def EG (h:acP)(H:Hp):(EF h H).objs.size=h.objs.size:=PySem.W.hideAll_size _ _
def Gs {H:Hp}{o:Obj}(e:h.get? b=some o)(n:H b=none):(EF h H).get? b=some o:=
 PySem.W.hideAll_get _ e λhm=>by
  have q:=(List.mem_filter.mp hm).2;rw[n] at q;simp at q
theorem Lh {H:Hp}{o:Obj}(e:(EF h H).get? b=some o):h.get? b=some o/\H b=none:=by
 have e' :=PySem.W.of_hideAll _ e;refine⟨e',?_⟩;cases q:H b with
 |none=>rfl
 |some x=>
  have hm:b∈Yr h H:=List.mem_filter.mpr ⟨ad4.mpr (aaA e'),by simp[q]⟩;have z:(EF h H).get? b=none:=PySem.W.hideAll_none _ hm;rw[z] at e;cases e
end L2
variable {xs vs:List L2.V}{H H' H1 H2:L2.Hp}{v y:L2.V}{aX:List (List L2.Key×L2.V)}
namespace L2
structure Mod (K:aai)(mg:Str->Option aak)(base:acP):Prop where
 kin:K.In base
 glob:base.Ns abc mg
 blt:∃mb,base.Ns builtinsNs mb/\∀x:Str,x≠"__name__"->mb x=abr x
 nolimit:base.NoLimit
structure Cx where
 prog:acC
 w:abq
 K:aai
 mg:Str->Option aak
 base:acP
 A:aba
 N:List Str
 s₀:aaD
 H₀:Hp
 env:Env
 outer:List Env
 stack:List Env
 ex:List aaM
 fn:Str->Bool
 calm:Bool
 pn:List (aaM×Obj)
 xe:aak->aaD->Prop
noncomputable def vJ (l:List Env):List aaM:=l.filterMap (·.frame)
noncomputable abbrev Cx.fs (X:Cx):List aaM:=vJ X.outer
def Gu (sc:afV)(x:Str):Prop:=sc.names.lookup x=some .local\/sc.names.lookup x=some .cell\/sc.names.lookup x=some .free
def Gv (sc:afV)(x:Str):Prop:=sc.names.lookup x=some .local\/sc.names.lookup x=some .cell
def WA (env:Env)(h:acP)(m:Str->Option aak)(x:Str)(u:aak):Prop:=
 (env.kindOf x=some .local/\m x=some u)\/((env.kindOf x=some .cell\/env.kindOf x=some .free)/\∃c,env.cells.lookup x=some c/\h.IsCell c (some u))
structure Cx.Ok (X:Cx):Prop where
 mod:Mod X.K X.mg X.base
 kind:X.env.scope.kind=.function
 glob:X.env.globals=abc
 blt:X.env.builtins=builtinsNs
 above:X.s₀.heap.objs.size<=X.env.locals
 inj:∀x y c,X.env.cells.lookup x=some c->X.env.cells.lookup y=some c->x=y
 has:∀x,(X.env.kindOf x=some .cell\/X.env.kindOf x=some .free)->∃c,X.env.cells.lookup x=some c
 cab:∀x c,X.fn x=true->X.env.cells.lookup x=some c->X.s₀.heap.objs.size<=c
 hd:X.calm=true->X.A.handled=none
 frames:X.A.frames=some X.stack
 stk:X.stack=X.outer\/(X.stack=X.env::X.outer/\X.env.frame=some X.env.locals)
 exf:∀b∈X.ex,b≠X.env.locals/\∀x c,X.env.cells.lookup x=some c->c≠b
 bs:∀b o,X.base.get? b=some o->X.s₀.heap.get? b=some o/\X.H₀ b=none
 bsz:X.base.objs.size<=X.s₀.heap.objs.size
 noex:∀b o,X.base.get? b=some o->b∉X.ex
 exfs:∀b∈X.ex,b∉X.fs
 funs:X.s₀.heap.FunFrames X.base X.outer
 frf:∀b∈X.fs,X.H₀ b=none
structure aE (X:Cx)(pins:List (aaM×Obj))(σ:List (Option V))(H:Hp)(s:aaD):Prop where
 ok:X.Ok
 os:s.os=X.s₀.os
 bare:afN s.gens
 base:Un X.fs X.ex X.H₀ H X.s₀.heap s.heap
 loc:∃m,s.heap.Ns X.env.locals m/\∀(i:Nat) (x:Str) (v:V),X.N[i]? = some x->σ[i]? = some (some v)->Gu X.env.scope x->∃u,aL v u/\WA X.env s.heap m x u
 cell:∀x c,X.env.cells.lookup x=some c->∃v,s.heap.IsCell c v
 free:H X.env.locals=none
 freeC:∀x c,X.env.cells.lookup x=some c->H c=none
 pin:∀p∈X.pn++pins,s.heap.get? p.1=some p.2/\H p.1=none/\p.1≠X.env.locals/\p.1∉X.fs/\∀v,p.2.data≠.cell v
 hok:jn X.prog X.w H s.heap
 len:σ.length=X.N.length
section
variable {X:Cx}{σ:List (Option V)}
theorem Cx.Ok.nofr (ok:X.Ok){o:Obj}(e:X.base.get? b=some o):b∉X.fs:=λhb=>by
 have:=(ok.funs.mem hb).1;rw[e] at this;cases this
def aE.bs (I:aE X pins σ H s):∀b o,X.base.get? b=some o->s.heap.get? b=some o/\H b=none:=λb o e=>
 ⟨I.base.keep b o (I.ok.bs b o e).1 (I.ok.bs b o e).2 (I.ok.nofr e) (I.ok.noex b o e),I.base.free b o (I.ok.bs b o e).1 (I.ok.bs b o e).2 (I.ok.noex b o e)⟩
def aE.bk (I:aE X pins σ H s):∀b o,X.base.get? b=some o->s.heap.get? b=some o:=λb o e=>(I.bs b o e).1
def aE.mod (I:aE X pins σ H s):Mod X.K X.mg X.base:=I.ok.mod
def aE.kIn (I:aE X pins σ H s):X.K.In s.heap:=I.ok.mod.kin.keeps I.bk
def aE.lt (I:aE X pins σ H s):X.env.locals<s.heap.objs.size:=let ⟨_,hn,_⟩:=I.loc;hn.lt
def aE.sz (I:aE X pins σ H s):X.s₀.heap.objs.size<=s.heap.objs.size:=aaR I.ok.above (afH I.lt)
theorem aE.nofs (I:aE X pins σ H s)(h:s.heap.objs.size<=a):a∉X.fs:=λhb=>by
 obtain⟨_,o,ho,_⟩:=I.ok.funs.mem hb;exact absurd (aa_ (aaA ho) (aaR I.sz h)) (acr _)
theorem aE.cne (I:aE X pins σ H s):∀x c,X.env.cells.lookup x=some c->c≠X.env.locals:=λx c e z=>by
 obtain⟨v,o,ho,hd⟩:=I.cell x c e;obtain⟨m,⟨o',es,ep,ho',hd',_⟩,_⟩:=I.loc;rw[z,ho'] at ho;cases ho;rw[hd'] at hd;cases hd
theorem aE.funs (I:aE X pins σ H s):s.heap.FunFrames X.base X.outer:=by
 have all:∀(l:List Env),(∀b∈vJ l,b∈X.fs)->X.s₀.heap.FunFrames X.base l->s.heap.FunFrames X.base l:=by
  intro l
  induction l with
  |nil=>intro _ _;trivial
  |cons env r ih=>
   intro hs hl;obtain⟨hk,⟨L,o,hf,hn,ho,hd⟩,hr⟩:=hl;have hL:=hs L (by unfold vJ;rw[afr,hf];exact aal);obtain⟨sl,e⟩:=I.base.slot L o ho (I.ok.frf L hL) hL λz=>I.ok.exfs L z hL;exact⟨hk,⟨L,_,hf,hn,e,hd⟩,ih (λb hb=>hs b (by unfold vJ;rw[afr,hf];exact aan _ hb)) hr⟩
 exact all _ (λ_ hb=>hb) I.ok.funs
theorem aE.stack (I:aE X pins σ H s):s.heap.FunFrames X.base X.stack:=by
 rcases I.ok.stk with e|⟨e,hf⟩
 ·rw[e];exact I.funs
 ·rw[e];obtain⟨m,hn,_⟩:=I.loc;refine .cons (by rw[I.ok.kind];decide) hf hn ?_ I.funs;exact Heap.get?_none_of_le (aaR I.ok.bsz I.ok.above)
theorem aE.stkSub (I:aE X pins σ H s):∀b∈vJ X.stack,b∈X.env.locals::X.fs:=λb hb=>by
 rcases I.ok.stk with e|⟨e,hf⟩
 ·rw[e] at hb;exact aan _ hb
 ·rw[e] at hb;unfold vJ at hb;rw[afr,hf] at hb;exact hb
theorem aE.stkFree (I:aE X pins σ H s):∀b∈vJ X.stack,H b=none:=λb hb=>by
 rcases aaw.mp (I.stkSub b hb) with e|hb
 ·rw[e];exact I.free
 ·obtain⟨_,o,ho,_⟩:=I.ok.funs.mem hb;exact I.base.free b o ho (I.ok.frf b hb) λz=>I.ok.exfs b z hb
theorem aE.step {t':Nat}{d':Drawn}(I:aE X pins σ H s)(Lb:∀b∈ch,(b∈X.ex\/X.s₀.heap.objs.size<=b)/\b≠X.env.locals/\(∀x c,X.env.cells.lookup x=some c->c≠b)/\∀p∈X.pn++pins,p.1≠b)(keep:∀b o,b≠X.env.locals->b∉X.fs->b∉ch->s.heap.get? b=some o->H b=none->h'.get? b=some o)(slot:∀b o,b≠X.env.locals->b∈X.fs->b∉ch->s.heap.get? b=some o->H b=none->∃sl,h'.get? b=some {o with slots:=sl})(free:∀b o,b∉ch->s.heap.get? b=some o->H b=none->H' b=none)(there:∀b o,b∉ch->s.heap.get? b=some o->∃o',h'.get? b=some o')(tups:∀b xs,H b=some (.tup xs)->H' b=some (.tup xs))(frzs:∀b o u,H b=some (.frz o u)->H' b=some (.frz o u))(tbls:∀b ps,H b=some (.tbl ps)->∃more,H' b=some (.tbl (ps++more)))(ns:∀m,s.heap.Ns X.env.locals m->h'.Ns X.env.locals m)(hok:jn X.prog X.w H' h')(hg:afN g') :
  aE X pins σ H' {s with heap:=h',gens:=g',drawn:=d',toks:=t'}:=by
 have Vw:∀b o,X.s₀.heap.get? b=some o->b≠X.env.locals:=λb o e=>aaN (aa_ (aaA e) I.ok.above);have Wn:∀b o,X.s₀.heap.get? b=some o->b∉X.ex->b∉ch:=λb o e hx hb=>by
  rcases (Lb b hb).1 with z|z
  ·exact hx z
  ·exact absurd (aa_ (aaA e) z) (acr _)
 have Pr:∀x c,X.env.cells.lookup x=some c->∀v,s.heap.IsCell c v->h'.IsCell c v:=λx c e v h00=>by
  obtain⟨o,ho,hd⟩:=h00;have Vx:=λz=>(Lb c z).2.2.1 x c e rfl;by_cases hc:c∈X.fs
  ·obtain⟨sl,q⟩:=slot c o (I.cne x c e) hc Vx ho (I.freeC x c e);exact⟨_,q,hd⟩
  ·exact⟨o,keep c o (I.cne x c e) hc Vx ho (I.freeC x c e),hd⟩
 refine⟨I.ok,I.os,hg,⟨λb o e n hb hx=>?_,λb o e n hb hx=>?_,λb o e n hx=>?_,λb o e hx=>?_,λb xs e=>tups b xs (I.base.tups b xs e),λb o xs e=>frzs b o xs (I.base.frzs b o xs e),λb ps e=>?_⟩,?_,λx c e=>?_,?_,λx c e=>?_,λp hp=>?_,hok,I.len⟩
 ·exact keep b o (Vw b o e) hb (Wn b o e hx) (I.base.keep b o e n hb hx) (I.base.free b o e n hx)
 ·obtain⟨sl,e1⟩:=I.base.slot b o e n hb hx;obtain⟨sl',e2⟩:=slot b _ (Vw b o e) hb (Wn b o e hx) e1 (I.base.free b o e n hx);exact⟨sl',e2⟩
 ·obtain⟨o',e1⟩:=I.base.there b o e hx;exact free b o' (Wn b o e hx) e1 (I.base.free b o e n hx)
 ·obtain⟨o',e1⟩:=I.base.there b o e hx;exact there b o' (Wn b o e hx) e1
 ·obtain⟨m1,e1⟩:=I.base.tbls b ps e;obtain⟨m2,e2⟩:=tbls b _ e1;exact⟨m1++m2,by rw[e2,Array.append_assoc]⟩
 ·obtain⟨m,hn,hl⟩:=I.loc;refine⟨m,ns m hn,λi x v e1 e2 e3=>?_⟩;obtain⟨u,r,l⟩:=hl i x v e1 e2 e3;refine⟨u,r,?_⟩;rcases l with l|⟨k,c,e,z⟩
  ·exact .inl l
  ·exact .inr ⟨k,c,e,Pr x c e _ z⟩
 ·obtain⟨v,z⟩:=I.cell x c e;exact⟨v,Pr x c e v z⟩
 ·obtain⟨m,⟨o,_,_,ho,_⟩,_⟩:=I.loc;exact free _ o (λz=>(Lb _ z).2.1 rfl) ho I.free
 ·obtain⟨v,o,ho,hd⟩:=I.cell x c e;exact free c o (λz=>(Lb c z).2.2.1 x c e rfl) ho (I.freeC x c e)
 ·obtain⟨e,n,ne,nf,d⟩:=I.pin p hp;have Vx:=λz=>(Lb p.1 z).2.2.2 p hp rfl;exact⟨keep p.1 p.2 ne nf Vx e n,free p.1 p.2 Vx e n,ne,nf,d⟩
theorem aE.un {t':Nat}(I:aE X pins σ H s)(u:Un X.fs [] H H' s.heap h')(hok:jn X.prog X.w H' h'):aE X pins σ H' {s with heap:=h',toks:=t'}:=by
 obtain⟨m,⟨o,es,ep,ho,r⟩,_⟩:=id I.loc;obtain⟨sl,hL⟩:=u.any ho I.free (by simp);exact I.step (ch:=[]) (λ_ z=>nomatch z) (λb o _ hb _ e n=>u.keep b o e n hb (by simp)) (λb o _ hb _ e n=>u.slot b o e n hb (by simp)) (λb o _ e n=>u.free b o e n (by simp)) (λb o _ e=>u.there b o e (by simp)) u.tups u.frzs u.tbls (λm' hm=>by
  obtain⟨o',es',ep',ho',r'⟩:=hm;rw[ho] at ho';cases ho';exact⟨_,es',ep',hL,r'⟩) hok I.bare
theorem aE.call {t':Nat}{d':Drawn}(I:aE X pins σ H s)(u:Un (vJ X.stack) ch H H' s.heap h')(hok:jn X.prog X.w H' h')(hg:afN g')(Lb:∀b∈ch,(b∈X.ex\/X.s₀.heap.objs.size<=b)/\b≠X.env.locals/\(∀x c,X.env.cells.lookup x=some c->c≠b)/\∀p∈X.pn++pins,p.1≠b) :
  aE X pins σ H' {s with heap:=h',gens:=g',drawn:=d',toks:=t'}:=by
 obtain⟨m,⟨o,es,ep,ho,r⟩,_⟩:=id I.loc;obtain⟨sl,hL⟩:=u.any ho I.free λz=>(Lb _ z).2.1 rfl;exact I.step Lb (λb o hL hb hc e n=>u.keep b o e n (λz=>(aaw.mp (I.stkSub b z)).elim hL hb) hc) (λb o _ _ hc e n=>u.any e n hc) (λb o hc e n=>u.free b o e n hc) (λb o hc e=>u.there b o e hc) u.tups u.frzs u.tbls (λm' hm=>by
  obtain⟨o',es',ep',ho',r'⟩:=hm;rw[ho] at ho';cases ho';exact⟨_,es',ep',hL,r'⟩) hok hg
theorem aE.turned {t':Nat}(I:aE X pins σ H s)(k:∀b o,b≠it->s.heap.get? b=some o->h'.get? b=some o)(hn:H it=none)(hL:it≠X.env.locals)(h1:it∈X.ex\/X.s₀.heap.objs.size<=it)(h2:∀x c,X.env.cells.lookup x=some c->c≠it)(h3:∀p∈X.pn++pins,p.1≠it):aE X pins σ H {s with heap:=h',toks:=t'}:=by
 have YW:∀b u,H b=some u->b≠it:=λb u e z=>by rw[z,hn] at e;cases e
 refine I.step (ch:=[it]) (λb hb=>?_) (λb o _ _ hc e _=>k b o (λz=>hc (by simp[z])) e) (λb o _ _ hc e _=>⟨o.slots,k b o (λz=>hc (by simp[z])) e⟩) (λ_ _ _ _ n=>n)
  (λb o hc e=>⟨o,k b o (λz=>hc (by simp[z])) e⟩) (λ_ _ e=>e) (λ_ _ _ e=>e) (λb ps e=>⟨#[],by rw[e];simp⟩) (λm hm=>?_) (λb u e=>?_) I.bare
 ·have e:=by simpa using hb
  subst e;exact⟨h1,hL,h2,h3⟩
 ·obtain⟨o,es,ep,ho,r⟩:=hm;exact⟨o,es,ep,k _ o (Ne.symm hL) ho,r⟩
 ·refine (I.hok b u e).stay (λc v hc q=>k c v ?_ q) (λ_ q=>q) λ_ _ q=>q;rcases hc with z|z
  ·rw[z];exact YW b u e
  ·exact YW c _ z
def aE.tok (I:aE X pins σ H s)(t:Nat):aE X pins σ H {s with toks:=t}:=I.un Un.refl I.hok
def aE.kept {t':Nat}(I:aE X pins σ H s)(k:∀b u,s.heap.get? b=some u->h'.get? b=some u):aE X pins σ H {s with heap:=h',toks:=t'}:=I.un (Un.kept k) (I.hok.kept k)
def aE.laid {t':Nat}{o:HO}(I:aE X pins σ H s)(k:∀b u,s.heap.get? b=some u->h'.get? b=some u)(hp:s.heap.objs.size<=a)(new:cP X.prog X.w (cT H a o) h' a o) :
  aE X pins σ (cT H a o) {s with heap:=h',toks:=t'}:=I.un (Un.laid k hp (I.hok.fresh hp)) (I.hok.laid k hp new)
def aE.write {t':Nat}{x e:aaM}{o:HO}(I:aE X pins σ H s)(mu:SV (H x))(he:e=x\/H e=some (.own x))(k:∀b u,b≠e->s.heap.get? b=some u->h'.get? b=some u)(S7:∃u,h'.get? e=some u)(new:cP X.prog X.w (cT H x o) h' x o):aE X pins σ (cT H x o) {s with heap:=h',toks:=t'}:=I.un (Un.write mu he k S7) (I.hok.write mu he k S7 new)
def aE.pins_of {Pt:List (aaM×Obj)}(I:aE X pins σ H s)(h:∀p∈Pt,s.heap.get? p.1=some p.2/\H p.1=none/\p.1≠X.env.locals/\p.1∉X.fs/\∀v,p.2.data≠.cell v):aE X Pt σ H s:=
 ⟨I.ok,I.os,I.bare,I.base,I.loc,I.cell,I.free,I.freeC,λp hp=>(aaQ.mp hp).elim (λz=>I.pin p (abX _ z)) (h p),I.hok,I.len⟩
theorem yS (hN:N.Nodup)(a:N[i]? = some x)(b:N[j]? = some x):i=j:=by
 obtain⟨h1,e1⟩:=aap.mp a;obtain⟨h2,e2⟩:=aap.mp b;exact (List.getElem_inj hN).mp (e1.trans e2.symm)
theorem vK {A:aba}{u:aak}{Q:Unit->aaD->Prop}(I:aE X pins σ H s)(hN:X.N.Nodup)(hi:X.N[i]? = some x)(hx:Gv X.env.scope x)(r:aL v u)(h:∀s',aE X pins (σ.set i (some v)) H s'->(∃a,aek a s.heap s'.heap/\(a=X.env.locals\/X.env.cells.lookup x=some a))->Q () s')(hf:X.fn x=true\/X.env.scope.names.lookup x=some .local:=by first|exact .inl rfl|exact .inr rfl|assumption):aaW M A (storeName X.env x u) Q E s:=by
 obtain⟨m,hn,hl⟩:=id I.loc;have XY:(X.env.scope.kind==.class||(X.env.scope.kind==.module&&X.env.locals != X.env.globals))=false:=by rw[I.ok.kind];rfl
 have YX:i<σ.length:=by rw[I.len];exact (aap.mp hi).1
 have cne:=I.cne;have EA:∀{a:aaM} {h':acP},(∃o,s.heap.get? a=some o/\H a=none)->aek a _ h'->jn _ X.w H h':=λ{a h'} ha hs b ob e=>by
  obtain⟨_,_,hfree⟩:=ha;refine (I.hok b ob e).stay (λc w' hc q=>(hs.2 c ?_).trans q) (λ_ q=>q) λ_ _ q=>q;rintro rfl;rcases hc with rfl|hc
  ·rw[hfree] at e;cases e
  ·rw[hfree] at hc;cases hc
 rcases hx with hk|hk
 ·refine wpAny_storeName_local hk hn (λh' ZH hs=>?_) XY;obtain⟨oL,_,_,SF,_⟩:=id hn;refine h _ ⟨I.ok,I.os,I.bare,⟨λb o e n hb hx=>?_,λb o e n hb hx=>?_,I.base.free,λb o e hx=>?_,I.base.tups,I.base.frzs,I.base.tbls⟩,⟨_,ZH,λj y v' e1 e2 e3=>?_⟩,λy c e=>?_,I.free,I.freeC,λp hp=>?_,EA ⟨oL,SF,I.free⟩ hs,by simpa using I.len⟩ ⟨_,hs,.inl rfl⟩
  ·exact (hs.2 b (aaN (aa_ (aaA e) I.ok.above))).trans (I.base.keep b o e n hb hx)
  ·obtain⟨sl,e1⟩:=I.base.slot b o e n hb hx;exact⟨sl,(hs.2 b (aaN (aa_ (aaA e) I.ok.above))).trans e1⟩
  ·obtain⟨o',e1⟩:=I.base.there b o e hx;exact⟨o',(hs.2 b (aaN (aa_ (aaA e) I.ok.above))).trans e1⟩
  ·by_cases hj:j=i
   ·subst hj;rw[hi] at e1;cases e1;rw[adx YX] at e2;cases e2;exact⟨u,r,.inl ⟨hk,by simp⟩⟩
   ·rw[aa4 (Ne.symm hj)] at e2;obtain⟨u',r',q⟩:=hl j y v' e1 e2 e3;refine⟨u',r',?_⟩;rcases q with⟨k,e⟩|⟨k,c,e,z⟩
    ·refine .inl ⟨k,?_⟩;have:y≠x:=λe=>hj (yS hN e1 (e▸hi));simp[this,e]
    ·exact .inr ⟨k,c,e,z.sameBut hs (cne y c e)⟩
  ·obtain⟨w',z⟩:=I.cell y c e;exact⟨w',z.sameBut hs (cne y c e)⟩
  ·obtain⟨e,n,ne,nf,d⟩:=I.pin p hp;exact⟨(hs.2 p.1 ne).trans e,n,ne,nf,d⟩
 ·have XZ:X.fn x=true:=by
   rcases hf with z|z
   ·exact z
   ·rw[z] at hk;cases hk
  obtain⟨c,hc⟩:=I.ok.has x (.inl hk);obtain⟨w',z⟩:=I.cell x c hc;refine wpAny_storeName_cell I.ok.kind hk hc z (λh' Wq hs=>?_);obtain⟨oc,hoc,hocd⟩:=id z;refine h _ ⟨I.ok,I.os,I.bare,⟨λb o e n hb hx=>?_,λb o e n hb hx=>?_,I.base.free,λb o e hx=>?_,I.base.tups,I.base.frzs,I.base.tbls⟩,⟨m,hn.sameBut hs (Ne.symm (cne x c hc)),λj y v' e1 e2 e3=>?_⟩,λy c' e=>?_,I.free,I.freeC,λp hp=>?_,EA ⟨oc,hoc,I.freeC x c hc⟩ hs,by simpa using I.len⟩ ⟨c,hs,.inr hc⟩
  ·exact (hs.2 b (aaN (aa_ (aaA e) (I.ok.cab x c XZ hc)))).trans (I.base.keep b o e n hb hx)
  ·obtain⟨sl,e1⟩:=I.base.slot b o e n hb hx;exact⟨sl,(hs.2 b (aaN (aa_ (aaA e) (I.ok.cab x c XZ hc)))).trans e1⟩
  ·obtain⟨o',e1⟩:=I.base.there b o e hx;exact⟨o',(hs.2 b (aaN (aa_ (aaA e) (I.ok.cab x c XZ hc)))).trans e1⟩
  ·by_cases hj:j=i
   ·subst hj;rw[hi] at e1;cases e1;rw[adx YX] at e2;cases e2;exact⟨u,r,.inr ⟨.inl hk,c,hc,Wq⟩⟩
   ·rw[aa4 (Ne.symm hj)] at e2;obtain⟨u',r',q⟩:=hl j y v' e1 e2 e3;refine⟨u',r',?_⟩;rcases q with q|⟨k,c',e,z'⟩
    ·exact .inl q
    ·refine .inr ⟨k,c',e,z'.sameBut hs ?_⟩;rintro rfl;exact hj (yS hN e1 (I.ok.inj _ _ _ e hc▸hi))
  ·by_cases hcc:c'=c
   ·subst hcc;exact⟨_,Wq⟩
   ·obtain⟨w2,z2⟩:=I.cell y c' e;exact⟨w2,z2.sameBut hs hcc⟩
  ·obtain⟨e,n,ne,nf,d⟩:=I.pin p hp;refine⟨(hs.2 p.1 ?_).trans e,n,ne,nf,d⟩;intro q;rw[q,hoc] at e;have q' :=aaX e;exact d w' (by rw[←q'];exact hocd)
def yT {A:aba}{u:aak}{Q:Unit->aaD->Prop}(I:aE X pins σ H s)(hN:X.N.Nodup)(hi:X.N[i]? = some x)(hx:Gv X.env.scope x)(r:aL v u)(h:∀s',aE X pins (σ.set i (some v)) H s'->Q () s')(hf:X.fn x=true\/X.env.scope.names.lookup x=some .local:=by first|exact .inl rfl|exact .inr rfl|assumption):aaW M A (storeName X.env x u) Q E s:=
 vK I hN hi hx r (λs' I' _=>h s' I') hf
theorem aE.call' {s':aaD}(I:aE X pins σ H s)(ho:s'.os=s.os)(u:Un (vJ X.stack) ch H H' s.heap s'.heap)(hok:jn X.prog X.w H' s'.heap)(hg:afN s'.gens)(Lb:∀b∈ch,(b∈X.ex\/X.s₀.heap.objs.size<=b)/\b≠X.env.locals/\(∀x c,X.env.cells.lookup x=some c->c≠b)/\∀p∈X.pn++pins,p.1≠b):aE X pins σ H' s':=by
 obtain⟨h',g',d',t',o'⟩:=s';have e:=ho;subst e;exact I.call u hok hg Lb
end
abbrev XK:=aak->Option aaM->Hp->Prop
noncomputable abbrev St:=List (Option V)
abbrev VK:=V->Hp->Prop
abbrev TE:=St->Hp->VK->Prop
abbrev TT:=St->Hp->(Bool->Hp->Prop)->Prop
abbrev TA:=St->Hp->(List V->Hp->Prop)->Prop
structure oP where
 nx:St->Hp->Prop
 rt:VK
 bk:St->Hp->Prop:=λ_ _=>False
 ct:St->Hp->Prop:=λ_ _=>False
abbrev TS:=oP->St->Hp->Prop
def EP (X:Cx)(pins:List (aaM×Obj))(σ:St)(Q:VK)(u:aak)(s':aaD):Prop:=∃v H',aE X pins σ H' s'/\aL v u/\Q v H'
def TP (X:Cx)(pins:List (aaM×Obj))(σ:St)(Q:Bool->Hp->Prop)(b:Bool)(s':aaD):Prop:=∃H',aE X pins σ H' s'/\Q b H'
def AP (X:Cx)(pins:List (aaM×Obj))(σ:St)(Q:List V->Hp->Prop)(us:List aak)(s':aaD):Prop:=∃vs H',aE X pins σ H' s'/\aV vs us/\Q vs H'
def SP (X:Cx)(pins:List (aaM×Obj))(D:oP)(f:Flow)(s':aaD):Prop:=
 match f with
 | .next=>∃σ' H',aE X pins σ' H' s'/\D.nx σ' H'
 | .brk=>∃σ' H',aE X pins σ' H' s'/\D.bk σ' H'
 | .cont=>∃σ' H',aE X pins σ' H' s'/\D.ct σ' H'
 | .ret u=>∃v σ' H',aE X pins σ' H' s'/\aL v u/\D.rt v H'
def PE (X:Cx)(e:aca)(t:TE):Prop:=
 ∀(pins:List (aaM×Obj)) (s:aaD) (σ:St) (H:Hp) (Q:VK),aE X pins σ H s->t σ H Q->aaW (aa1 X.prog X.w) X.A (adB e X.env) (EP X pins σ Q) X.xe s
def PT (X:Cx)(e:aca)(t:TT):Prop:=
 ∀(pins:List (aaM×Obj)) (s:aaD) (σ:St) (H:Hp) (Q:Bool->Hp->Prop),aE X pins σ H s->t σ H Q->aaW (aa1 X.prog X.w) X.A (isTrue e X.env (adB e X.env)) (TP X pins σ Q) X.xe s
def PW (X:Cx)(e:aca)(t:TT):Prop:=
 ∀(oM:Sem aak) (pins:List (aaM×Obj)) (s:aaD) (σ:St) (H:Hp) (Q:Bool->Hp->Prop),aE X pins σ H s->t σ H Q->aaW (aa1 X.prog X.w) X.A (isTrue e X.env oM) (TP X pins σ Q) X.xe s
def PW.pt {X:Cx}{e:aca}{t:TT}(h:PW X e t):PT X e t:=h _
def PA (X:Cx)(es:List aca)(t:TA):Prop:=
 ∀(pos:Pos) (pins:List (aaM×Obj)) (s:aaD) (σ:St) (H:Hp) (Q:List V->Hp->Prop),aE X pins σ H s->t σ H Q->aaW (aa1 X.prog X.w) X.A (spliced (acq pos (aaC es X.env))) (AP X pins σ Q) X.xe s
def PS (X:Cx)(st:aeO)(t:TS):Prop:=
 ∀(pins:List (aaM×Obj)) (s:aaD) (σ:St) (H:Hp) (D:oP),aE X pins σ H s->t D σ H->aaW (aa1 X.prog X.w) X.A (exec st X.env) (SP X pins D) X.xe s
def vc (X:Cx)(st:List aeO)(t:TS):Prop:=
 ∀(pins:List (aaM×Obj)) (s:aaD) (σ:St) (H:Hp) (D:oP),aE X pins σ H s->t D σ H->aaW (aa1 X.prog X.w) X.A (execs st X.env) (SP X pins D) X.xe s
def dE {α:Type}{t:Sem α}{Q Q':α->aaD->Prop}{A:aba}(h:aaW M A t Q E s)(hQ:∀a s,Q a s->Q' a s):aaW M A t Q' E s:=abk h hQ λ_ _ x=>x
end L2
variable {X:L2.Cx}{σ:L2.St}{te:L2.TE}{tb:L2.TS}
namespace L2
section
def PR (i:Nat):TE:=λσ H Q=>∃v,σ[i]? = some (some v)/\Q v H
def tC (v:V):TE:=λ_ H Q=>Q v H
theorem jo (hN:X.N[i]? = some x)(hv:Gu X.env.scope x)(hd:(x==("__debug__":Str))=false:=by decide)(oJ:(x==("__classdict__":Str))=false:=by decide):PE X (.Name x pos) (PR i):=by
 intro pins s σ H Q I h;obtain⟨v,e,h⟩:=h;obtain⟨m,hn,hl⟩:=I.loc;obtain⟨u,r,l⟩:=hl i x v hN e hv;have fin:EP X pins σ Q u s:=⟨v,H,I,r,h⟩;rcases l with⟨hk,hm⟩|⟨hk,c,hc,wU⟩
 ·exact wpAny_Name (wpAny_loadName_local I.ok.kind hk hn hm fin) hd
 ·rcases hk with hk|hk
  ·exact wpAny_Name (wpAny_loadName_cell I.ok.kind hk hc wU fin) hd
  ·exact wpAny_Name (wpAny_loadName_free I.ok.kind hk hc wU fin oJ) hd
def PV {i j pos}:PE X (.Constant (.int i) j pos) (tC (.int i)):=λ_ _ _ H _ I h=>wpAny_Constant_int ⟨.int i,H,I.tok _,⟨_,rfl⟩,h⟩
def NI {b j pos}:PE X (.Constant (.bool b) j pos) (tC (.bl b)):=λ_ _ _ H _ I h=>Constant_bool ⟨.bl b,H,I,rfl,h⟩
def Gw {j pos}:PE X (.Constant .none j pos) (tC .non):=λ_ _ _ H _ I h=>Constant_none ⟨.non,H,I,rfl,h⟩
def Gl (X:Cx)(x:Str):Prop:=X.env.kindOf x=some .globalImplicit
def mS {u:aak}(I:aE X pins σ H s)(hg:Gl X x)(hm:X.mg x=some u)(h:Q u s)(hd:(x==("__debug__":Str))=false:=by decide):aaW (aa1 X.prog X.w) X.A (adB (.Name x pos) X.env) Q E s:=
 afD I.ok.kind hg (Calls.loadGlobal_global (by rw[I.ok.glob];exact I.mod.glob.keeps I.bk) hm h) hd
theorem wZ {u:aak}(I:aE X pins σ H s)(hg:Gl X x)(hm:X.mg x=none)(hv:abr x=some u)(h:Q u s)(hn:x≠"__name__":=by decide)(hd:(x==("__debug__":Str))=false:=by decide):aaW (aa1 X.prog X.w) X.A (adB (.Name x pos) X.env) Q E s:=by
 obtain⟨mb,h1,h2⟩:=I.mod.blt;exact afD I.ok.kind hg (Calls.loadGlobal_builtin (by rw[I.ok.glob];exact I.mod.glob.keeps I.bk) hm (by rw[I.ok.blt];exact h1.keeps I.bk) ((h2 x hn).trans hv) h) hd
def w6 {u:aak}(hg:Gl X x)(hm:X.mg x=some u)(r:aL v u)(hd:(x==("__debug__":Str))=false:=by decide):PE X (.Name x pos) (tC v):=
 λ_ _ _ H _ I h=>mS I hg hm ⟨v,H,I,r,h⟩ hd
variable {a b:aca}{ta tb:TE}
def tB (t:TE):TT:=λσ H Q=>t σ H λx H1=>∃c,x=.bl c/\Q c H1
theorem PX {e:aca}{t:TE}(h:PE X e t)(he:∀oM,isTrue e X.env oM=(do let v ←oM;standAt e.pos;holding [v] (truthy v)):=by intro _;rfl):PT X e (tB t):=by
 intro pins s σ H Q I hw;refine isTrue_plain (dE (h pins s σ H _ I hw) λv s1 ⟨x,H1,I1,r1,q1⟩=>?_) (he _);obtain⟨d,rfl,q⟩:=q1;cases r1;exact adM ⟨H1,I1,q⟩
variable {tA tB':TT}{rest:List aca}
def Tg (t u:TT):TT:=λσ H Q=>t σ H λc H1=>if c=true then u σ H1 Q else Q false H1
def Ys (t u:TT):TT:=λσ H Q=>t σ H λc H1=>if c=true then Q true H1 else u σ H1 Q
def WB (t:TT):TT:=λσ H Q=>t σ H λc H1=>Q (!c) H1
theorem Li (ha:PT X a tA):PW X (.BoolOp .And [a] pos) tA:=by
 intro wh pins s σ H Q I h;refine isTrue_and (dE (ha pins s σ H Q I h) λc s1 e=>?_);cases c with
 |true=>exact isTrue_and_nil e
 |false=>exact e
theorem PY (ha:PT X a tA):PW X (.BoolOp .Or [a] pos) tA:=by
 intro wh pins s σ H Q I h;refine isTrue_or (dE (ha pins s σ H Q I h) λc s1 e=>?_);cases c with
 |false=>exact isTrue_or_nil e
 |true=>exact e
theorem PZ (ha:PT X a tA)(hb:PW X (.BoolOp .And (b::rest) pos) tB'):PW X (.BoolOp .And (a::b::rest) pos) (Tg tA tB'):=by
 intro wh pins s σ H Q I h;refine isTrue_and (dE (ha pins s σ H _ I h) λc s1 ⟨H1,I1,q1⟩=>?_);cases c with
 |true=>exact hb wh pins s1 σ H1 Q I1 q1
 |false=>exact⟨H1,I1,q1⟩
theorem Th (ha:PT X a tA)(hb:PW X (.BoolOp .Or (b::rest) pos) tB'):PW X (.BoolOp .Or (a::b::rest) pos) (Ys tA tB'):=by
 intro wh pins s σ H Q I h;refine isTrue_or (dE (ha pins s σ H _ I h) λc s1 ⟨H1,I1,q1⟩=>?_);cases c with
 |true=>exact⟨H1,I1,q1⟩
 |false=>exact hb wh pins s1 σ H1 Q I1 q1
def P0 (ha:PT X a tA):PT X (.UnaryOp .Not a pos) (WB tA):=by
 intro pins s σ H Q I h;exact isTrue_not (ha pins s σ H _ I h)
def Ti (ta tb:TE):TE:=λσ H Q=>ta σ H λx H1=>∃c,x=.bl c/\if c=true then tb σ H1 Q else Q (.bl false) H1
def WC (ta tb:TE):TE:=λσ H Q=>ta σ H λx H1=>∃c,x=.bl c/\if c=true then Q (.bl true) H1 else tb σ H1 Q
def P2 {op}{t:TE}(h:PE X a t):PE X (.BoolOp op [a] pos) t:=λpins s σ H Q I hw=>BoolOp_one (h pins s σ H Q I hw)
theorem P4 (ha:PE X a ta)(hb:PE X (.BoolOp .And (b::rest) pos) tb):PE X (.BoolOp .And (a::b::rest) pos) (Ti ta tb):=by
 intro pins s σ H Q I h;refine BoolOp_and (dE (ha pins s σ H _ I h) λv s1 ⟨x,H1,I1,r1,q1⟩=>?_);obtain⟨c,rfl,q1⟩:=q1;cases r1;refine adM ?_;cases c with
 |true=>exact hb pins s1 σ H1 Q I1 q1
 |false=>exact⟨.bl false,H1,I1,rfl,q1⟩
theorem Tj (ha:PE X a ta)(hb:PE X (.BoolOp .Or (b::rest) pos) tb):PE X (.BoolOp .Or (a::b::rest) pos) (WC ta tb):=by
 intro pins s σ H Q I h;refine BoolOp_or (dE (ha pins s σ H _ I h) λv s1 ⟨x,H1,I1,r1,q1⟩=>?_);obtain⟨c,rfl,q1⟩:=q1;cases r1;refine adM ?_;cases c with
 |false=>exact hb pins s1 σ H1 Q I1 q1
 |true=>exact⟨.bl true,H1,I1,rfl,q1⟩
end
end L2
namespace L2
def fX (K:aai)(H:Hp)(a:aaM)(xs:List V):Prop:=
 Rd H a (.lst xs) \/
  ∃(o:Obj) (aD:Array aak) (n:Nat),K.lookup a=some o/\o.cls=.type "list"/\o.dict=none/\o.data=.seq aD n/\aD.size<=aah/\aV xs aD.toList
def gr (K:aai)(H:Hp)(a:aaM)(xs:List V):Prop:=
 Rd H a (.tup xs) \/
  ∃(o:Obj) (aD:Array aak) (n:Nat),K.lookup a=some o/\o.cls=.type "tuple"/\o.data=.seq aD n/\aD.size<=aah/\aV xs aD.toList
noncomputable def WD:aak->Option V
 | .none=>some .non
 | .bool b=>some (.bl b)
 | .int i _=>some (.int i)
 | .str x _=>some (.str x)
 | .bytes b _=>some (.byt b)
 | .float b _=>some (.flt b)
 | .ref a=>some (.ref a)
 | .type n=>some (.ty n)
 |_=>none
theorem aL.abs {x:V}{u:aak}(r:aL x u):WD u=some x:=by
 cases x with
 |non=>cases r;rfl
 |bl _=>cases r;rfl
 |int _=>obtain⟨t,rfl⟩:=r;rfl
 |str _=>obtain⟨t,rfl⟩:=r;rfl
 |byt _=>obtain⟨t,rfl⟩:=r;rfl
 |flt _=>obtain⟨t,rfl⟩:=r;rfl
 |ref _=>cases r;rfl
 |ty _=>cases r;rfl
def aL.inj {x:V}{u:aak}(r:aL x u)(q:aL y u):x=y:=aaX (r.abs.symm.trans q.abs)
theorem aV.inj:∀{xs ys:List V} {us:List aak},aV xs us->aV ys us->xs=ys
 |_,_,_,.nil,.nil=>rfl
 |_,_,_,.cons r t,.cons r' t'=>by rw[r.inj r',aV.inj t t']
section
variable {ys:List V}
def fX.of (h:H a=some (.lst xs)):fX K H a xs:=.inl (.inl h)
def gr.of (h:H a=some (.tup xs)):gr K H a xs:=.inl (.inl h)
theorem aE.list (I:aE X pins σ H s)(h:fX X.K H a xs):∃aD:List aak,aV xs aD/\PlainL s.heap a aD.toArray/\xs.length<=aah:=by
 rcases h with h|⟨o,aD,n,hk,hc,hd,hs,hz,r⟩
 ·obtain⟨z,aD,n,r,e⟩:=h.ok I.hok;exact⟨aD,r,⟨_,n,e,rfl,rfl,rfl⟩,z⟩
 ·refine⟨aD.toList,r,⟨o,n,I.kIn a o hk,hc,hd,by simpa using hs⟩,?_⟩;have e:=r.length;simp only[aay] at e;lia
theorem aE.tuple (I:aE X pins σ H s)(h:gr X.K H a xs):∃aD:List aak,aV xs aD/\IsTup s.heap a aD.toArray/\xs.length<=aah:=by
 rcases h with h|⟨o,aD,n,hk,hc,hs,hz,r⟩
 ·obtain⟨z,aD,r,p,_⟩:=h.ok I.hok;exact⟨aD,r,p,z⟩
 ·refine⟨aD.toList,r,⟨o,I.kIn a o hk,hc,n,by simpa using hs⟩,?_⟩;have e:=r.length;simp only[aay] at e;lia
theorem aE.list_inj (I:aE X pins σ H s)(h:fX X.K H a xs)(h':fX X.K H a ys):xs=ys:=by
 obtain⟨aD,r,⟨o,n,e,_,_,d⟩,_⟩:=I.list h;obtain⟨rA,r',⟨o',n',e',_,_,d'⟩,_⟩:=I.list h';rw[e] at e';cases e';rw[d] at d';injection d' with d1 _
 have:=by simpa using congrArg Array.toList d1
 subst this;exact r.inj r'
theorem aE.tuple_inj (I:aE X pins σ H s)(h:gr X.K H a xs)(h':gr X.K H a ys):xs=ys:=by
 obtain⟨aD,r,⟨o,e,_,n,d⟩,_⟩:=I.tuple h;obtain⟨rA,r',⟨o',e',_,n',d'⟩,_⟩:=I.tuple h';rw[e] at e';cases e';rw[d] at d';injection d' with d1 _
 have:=by simpa using congrArg Array.toList d1
 subst this;exact r.inj r'
end
noncomputable abbrev Cx.wish (X:Cx)(E:aak->aaD->Prop):Cx:={X with xe:=E}
noncomputable abbrev Cx.nox (X:Cx):Cx:=X.wish λ_ _=>False
def Cx.Ok.wish (ok:X.Ok)(E:aak->aaD->Prop):(X.wish E).Ok:=
 ⟨ok.mod,ok.kind,ok.glob,ok.blt,ok.above,ok.inj,ok.has,ok.cab,ok.hd,ok.frames,ok.stk,ok.exf,ok.bs,ok.bsz,ok.noex,ok.exfs,ok.funs,ok.frf⟩
def Cx.Ok.unwish (ok:(X.wish E).Ok):X.Ok:=
 ⟨ok.mod,ok.kind,ok.glob,ok.blt,ok.above,ok.inj,ok.has,ok.cab,ok.hd,ok.frames,ok.stk,ok.exf,ok.bs,ok.bsz,ok.noex,ok.exfs,ok.funs,ok.frf⟩
def aE.wish (I:aE X pins σ H s)(E:aak->aaD->Prop):aE (X.wish E) pins σ H s:=⟨I.ok.wish E,I.os,I.bare,I.base,I.loc,I.cell,I.free,I.freeC,I.pin,I.hok,I.len⟩
def aE.unwish (I:aE (X.wish E) pins σ H s):aE X pins σ H s:=⟨I.ok.unwish,I.os,I.bare,I.base,I.loc,I.cell,I.free,I.freeC,I.pin,I.hok,I.len⟩
theorem SP.unwish {D:oP}{f:Flow}{s':aaD}(h:SP (X.wish E) pins D f s'):SP X pins D f s':=by
 cases f with
 |next=>obtain⟨σ',H',I,q⟩:=h;exact⟨σ',H',I.unwish,q⟩
 |brk=>obtain⟨σ',H',I,q⟩:=h;exact⟨σ',H',I.unwish,q⟩
 |cont=>obtain⟨σ',H',I,q⟩:=h;exact⟨σ',H',I.unwish,q⟩
 |ret u=>obtain⟨v,σ',H',I,r,q⟩:=h;exact⟨v,σ',H',I.unwish,r,q⟩
def vc.nox {st:List aeO}{t:TS}(h:vc X.nox st t):vc X st t:=λpins s σ H D I hw=>
 abk (h pins s σ H D (I.wish _) hw) (λ_ _ q=>q.unwish) λ_ _ z=>acB z
section
variable {rest:List aeO}{t u:TS}{e:aca}
def Tn:TS:=λD σ H=>D.nx σ H
def WE (t u:TS):TS:=λD σ H=>t {D with nx:=u D} σ H
def Lj:vc X [] Tn:=λ_ _ σ H _ I h=>aes ⟨σ,H,I,h⟩
theorem Gx (h1:PS X st t)(h2:vc X rest u):vc X (st::rest) (WE t u):=by
 intro pins s σ H D I h;refine wpAny_execs_cons (dE (h1 pins s σ H _ I h) λf s1 q=>?_);cases f with
 |next=>
  obtain⟨σ',H',I',q⟩:=q;exact h2 pins s1 σ' H' D I' q
 |ret v=>exact q
 |brk=>exact q
 |cont=>exact q
theorem CG (h1:PS X st t):vc X [st] t:=by
 intro pins s σ H D I h;refine wpAny_execs_cons (dE (h1 pins s σ H D I h) λf s1 q=>?_);cases f with
 |next=>exact aes q
 |ret v=>exact q
 |brk=>exact q
 |cont=>exact q
def aE.quiet (I:aE X pins σ H s):interactive X.env=false:=by simp[interactive,I.ok.kind]
def To (te:TE):TS:=λD σ H=>te σ H λ_ H1=>D.nx σ H1
def Lk (he:PE X e te)(hs:ado e none pos.line X.env=pure false:=by rfl):PS X (.Expr e pos) (To te):=by
 intro pins s σ H D I h;exact wpAny_Expr_any (dE (he pins s σ H _ I h) λv s1 ⟨x,H1,I1,r1,q1⟩=>⟨σ,H1,I1,q1⟩) I.quiet hs
def WG (te:TE):TS:=λD σ H=>te σ H D.rt
def Bc (he:PE X e te):PS X (.Return (some e) pos) (WG te):=by
 intro pins s σ H D I h;exact wpAny_Return_some (dE (he pins s σ H _ I h) λv s1 ⟨x,H1,I1,r1,q1⟩=>⟨x,σ,H1,I1,r1,q1⟩)
def WH (c:TT)(t u:TS):TS:=λD σ H=>c σ H λb H1=>if b=true then t D σ H1 else u D σ H1
theorem Tp {a b:List aeO}{tc:TT}(hc:PT X c tc)(ha:vc X a t)(hb:vc X b u):PS X (.If c a b pos) (WH tc t u):=by
 intro pins s σ H D I h;refine wpAny_If (dE (hc pins s σ H _ I h) λd s1 ⟨H1,I1,q1⟩=>?_);cases d with
 |true=>exact ha pins s1 σ H1 D I1 q1
 |false=>exact hb pins s1 σ H1 D I1 q1
end
abbrev TG:=V->St->Hp->(St->Hp->Prop)->Prop
abbrev Ll:=List V->St->Hp->(St->Hp->Prop)->Prop
def PG (X:Cx)(uZ:aca)(t:TG):Prop:=
 ∀(pins:List (aaM×Obj)) (s:aaD) (σ:St) (H:Hp) (v:V) (u:aak) (Q:St->Hp->Prop),aE X pins σ H s->aL v u->t v σ H Q->
  aaW (aa1 X.prog X.w) X.A (assign uZ X.env u) (λ_ s'=>∃σ' H',aE X pins σ' H' s'/\Q σ' H') X.xe s
def NJ (X:Cx)(ts:List aca)(t:Ll):Prop:=
 ∀(pins:List (aaM×Obj)) (s:aaD) (σ:St) (H:Hp) (vs:List V) (us:List aak) (Q:St->Hp->Prop),aE X pins σ H s->aV vs us->t vs σ H Q->
  aaW (aa1 X.prog X.w) X.A (assignInOrder ((adt ts X.env).map (·.2)) us) (λ_ s'=>∃σ' H',aE X pins σ' H' s'/\Q σ' H') X.xe s
abbrev P5:=V->V->V->Hp->(Hp->Prop)->Prop
def Tq (X:Cx)(t:P5):Prop:=
 ∀(pins:List (aaM×Obj)) (s:aaD) (σ:St) (H:Hp) (o i v:V) (ov iv u:aak) (Q:Hp->Prop),aE X pins σ H s->aL o ov->aL i iv->aL v u->t o i v H Q->
  aaW (aa1 X.prog X.w) X.A (setItem ov iv u) (λ_ s'=>∃H',aE X pins σ H' s'/\Q H') X.xe s
def yU (i:Nat):TG:=λv σ H Q=>Q (σ.set i (some v)) H
def Lm (hN:X.N.Nodup)(hi:X.N[i]? = some x)(hx:Gv X.env.scope x)(hf:X.fn x=true\/X.env.scope.names.lookup x=some .local:=by first|exact .inl rfl|exact .inr rfl|assumption):PG X (.Name x pos) (yU i):=by
 intro pins s σ H v u Q I r h;exact wpAny_assign_Name (yT I hN hi hx r (λs' I'=>⟨_,H,I',h⟩) hf)
def WI:Ll:=λvs σ H Q=>vs=[]/\Q σ H
def Tr (t:TG)(u:Ll):Ll:=λvs σ H Q=>∃v r,vs=v::r/\t v σ H λσ' H'=>u r σ' H' Q
theorem Ln:NJ X [] WI:=by
 intro pins s σ H vs us Q I r h;obtain⟨e,h⟩:=h;exact assignInOrder_nil ⟨σ,H,I,h⟩
theorem Gy {e:aca}{es:List aca}{t:TG}{u:Ll}(h1:PG X e t)(h2:NJ X es u)
  (hs:(adt (e::es) X.env).map (·.2)=assign e X.env::(adt es X.env).map (·.2):=by rfl):NJ X (e::es) (Tr t u):=by
 intro pins s σ H vs us Q I r h;obtain⟨v,vr,e1,h⟩:=h;subst e1;cases r with
 |cons r rr=>
  rw[hs];refine assignInOrder_cons (dE (h1 pins s σ H _ _ _ I r h) λ_ s1 ⟨σ1,H1,I1,q1⟩=>?_);exact h2 pins s1 σ1 H1 _ _ Q I1 rr q1
def WJ (K:aai)(n:Nat)(t:Ll):TG:=λv σ H Q=>∃a xs,v=.ref a/\gr K H a xs/\xs.length=n/\t xs σ H Q
theorem P6 {es:List aca}{t:Ll}(hc:X.calm=true)(h:NJ X es t)(hn:(adt es X.env).length=n:=by rfl)(gj:(adt es X.env).findIdx? (·.1)=none:=by rfl):PG X (.Tuple es k pos) (WJ X.K n t):=by
 intro pins s σ H v u Q I r hw;obtain⟨a,xs,e1,hq,hl,hw⟩:=hw;subst e1;cases r;obtain⟨aD,rv,ht,hz⟩:=I.tuple hq;refine assign_Tuple_tuple (I.ok.hd hc) ht (by simp[hn,←hl,rv.length]) gj λh' hx=>?_;have I1:=I.kept (t':=s.toks) λb o e=>hx b o (aaN (aaA e)) e;exact h pins _ σ H xs _ Q I1 (by simpa using rv) hw
def WK (to ti:TE)(t:P5):TG:=λv σ H Q=>to σ H λo H1=>ti σ H1 λi H2=>t o i v H2 λH3=>Q σ H3
def P7 {o i:aca}{to ti:TE}{t:P5}(ho:PE X o to)(hi:PE X i ti)(hs:Tq X t)
  (ha:∀v,assign (.Subscript o i pos) X.env v=(do
   let ov ←holding [v] (adB o X.env)
   let iv ←holding [v,ov] (adB i X.env)
   standAt pos
   holding [v,ov,iv] (setItem ov iv v)
   release [v,ov,iv] []):=by intro _;rfl):PG X (.Subscript o i pos) (WK to ti t):=by
 intro pins s σ H v u Q I r h;refine aaa (abt (dE (ho pins s σ H _ I h) λov s1 ⟨x,H1,I1,r1,q1⟩=>?_));refine aaa (abt (dE (hi pins s1 σ H1 _ I1 q1) λiv s2 ⟨y,H2,I2,r2,q2⟩=>?_));refine aaa (wpAny_standAt (aaa (abt (dE (hs pins s2 σ H2 x y v ov iv u _ I2 r1 r2 r q2) λ_ s3 ⟨H3,I3,q3⟩=>?_))));exact wpAny_release ⟨σ,H3,I3,q3⟩
def Gz (te:TE)(g:TG):TS:=λD σ H=>te σ H λx H1=>g x σ H1 D.nx
def P8 {e:aca}{g:TG}(he:PE X e te)(hg:PG X tg g)(hs:swapsWithSole [tg] e pos.line X.env=pure false:=by rfl)(hw:swappedStores [tg] e X.env=pure none:=by rfl)(h1:(adt [tg] X.env).map (·.2)=[assign tg X.env]:=by rfl):PS X (.Assign [tg] e pos) (Gz te g):=by
 intro pins s σ H D I h;refine wpAny_Assign_stores (dE (he pins s σ H _ I h) λv s1 ⟨x,H1,I1,r1,q1⟩=>?_) hs hw;rw[h1];exact dE (hg pins s1 σ H1 x v _ I1 r1 q1) λ_ s2 q=>q
def w9 {e:aca}{oK:Pos}(hN:X.N.Nodup)(hi:X.N[i]? = some x)(hx:Gv X.env.scope x)(he:PE X e te)(hs:ado e (some (.Name x oK)) pos.line X.env=pure false:=by rfl)(hf:X.fn x=true\/X.env.scope.names.lookup x=some .local:=by first|exact .inl rfl|exact .inr rfl|assumption) :
  PS X (.Assign [.Name x oK] e pos) (Gz te (yU i)):=by
 intro pins s σ H D I h;refine wpAny_Assign_Name (dE (he pins s σ H _ I h) λv s1 ⟨y,H1,I1,r1,q1⟩=>?_) hs;exact yT I1 hN hi hx r1 (λs2 I2=>⟨_,H1,I2,q1⟩) hf
def P9 (c:TT)(tb:TS):TS:=λD σ H=>∃W:Nat->St->Hp->Prop,(∃m,W m σ H)/\∀m σ H,W m σ H->
 c σ H λb H1=>if b=true then ∃N:St->Hp->Prop,(∀σ' H',N σ' H'->∃m',m'<m/\W m' σ' H')/\tb {D with nx:=N,ct:=N,bk:=D.nx} σ H1 else D.nx σ H1
theorem GA {tc:TT}(hp:agc (aa1 X.prog X.w) X.A X.env X.xe)(hc:PT X c tc)(hb:vc X body tb):PS X (.While c body [] pos) (P9 tc tb):=by
 intro pins s σ H D I h;obtain⟨W,⟨m0,w0⟩,turn⟩:=h;refine wpAny_While (codeAny_whileLoop (λn s'=>∃σ' H',aE X pins σ' H' s'/\W n σ' H') ?_ m0 ⟨σ,H,I,w0⟩);rintro n s1 ⟨σ1,H1,I1,w1⟩;refine ac7 hp (dE (hc pins s1 σ1 H1 _ I1 (turn n σ1 H1 w1)) λb s2 ⟨H2,I2,q2⟩=>?_);cases b with
 |true=>
  obtain⟨N,hN,q2⟩:=q2;refine ac7 hp (dE (hb pins s2 σ1 H2 _ I2 q2) λf s3 q3=>?_);cases f with
  |next=>
   obtain⟨σ3,H3,I3,n3⟩:=q3;obtain⟨m',hm,w3⟩:=hN σ3 H3 n3;exact⟨m',hm,σ3,H3,I3,w3⟩
  |cont=>
   obtain⟨σ3,H3,I3,n3⟩:=q3;obtain⟨m',hm,w3⟩:=hN σ3 H3 n3;exact⟨m',hm,σ3,H3,I3,w3⟩
  |brk=>exact q3
  |ret v=>exact q3
 |false=>
  exact aes ⟨σ1,H2,I2,q2⟩
structure It where
 go:Nat->Hp->Prop
 yld:Nat->Hp->V->Hp->Prop
 stop:Nat->Hp->Prop
def qQ (X:Cx)(pins:List (aaM×Obj))(H:Hp)(b:aaM):Prop:=
 H b=none/\b≠X.env.locals/\b∉X.fs/\(b∈X.ex\/X.s₀.heap.objs.size<=b)/\(∀x c,X.env.cells.lookup x=some c->c≠b)/\∀p∈X.pn++pins,p.1≠b
theorem aE.fpOk (I:aE X pins σ H s)(hb:s.heap.objs.size<=b)(hn:H' b=none):qQ X pins H' b:=by
 refine⟨hn,acX (aa_ I.lt hb),I.nofs hb,.inr (aaR I.sz hb),λx c e z=>?_,λp hp z=>?_⟩
 ·obtain⟨v,q⟩:=I.cell x c e;exact absurd (aa_ q.lt (by rw[z];exact hb)) (acr _)
 ·exact absurd (aa_ (aaA (I.pin p hp).1) (by rw[z];exact hb)) (acr _)
structure w_ (P:acC)(w:abq)(K:aai)(tg:aca)(J:It)(fp:List aaM)(it:aaM)(tn:Nat->acP->Prop):Prop where
 mem:it∈fp
 obj:∀i h,tn i h->∀b∈fp,∃o,h.get? b=some o/\∀v,o.data≠.cell v
 keep:∀i h h',tn i h->(∀b∈fp,∀o,h.get? b=some o->h'.get? b=some o)->tn i h'
 item:∀(X:Cx),X.prog=P->X.w=w->X.K=K->X.calm=true->∀(i:Nat) (pins:List (aaM×Obj)) (s:aaD) (σ:St) (H:Hp) (E:aak->aaD->Prop),aE X pins σ H s->(∀b∈fp,qQ X pins H b)->tn i s.heap->J.go i H->
  aaW (aa1 P w) X.A (pyNext (.ref it)) (λr s1=>∃u,r=some u/\
   aaW (aa1 P w) X.A (letOwnedTupleGo tg (.ref it) u) (λ_ s2=>∃x H',aE X pins σ H' s2/\aL x u/\J.yld i H x H'/\tn (i+1) s2.heap/\∀b∈fp,H' b=none) E s1) E s
 done:∀(X:Cx),X.prog=P->X.w=w->X.K=K->X.calm=true->∀(i:Nat) (pins:List (aaM×Obj)) (s:aaD) (σ:St) (H:Hp) (E:aak->aaD->Prop),aE X pins σ H s->(∀b∈fp,qQ X pins H b)->tn i s.heap->J.stop i H->
  aaW (aa1 P w) X.A (pyNext (.ref it)) (λr s1=>r=none/\aE X pins σ H s1) E s
 self:∀(A:aba) (i:Nat) (s:aaD) (Q:aak->aaD->Prop) (E:aak->aaD->Prop),tn i s.heap->Q (.ref it) s->aaW (aa1 P w) A (pyIter (.ref it)) Q E s
abbrev TI:=St->Hp->(It->Hp->Prop)->Prop
def Yt (X:Cx)(pins:List (aaM×Obj))(σ:St)(tg:aca)(R:It->Hp->Prop)(Wr:aak)(s2:aaD):Prop:=
 ∃(it:aaM) (fp:List aaM) (tn:Nat->acP->Prop) (J:It) (H':Hp),Wr=.ref it/\aE X pins σ H' s2/\w_ X.prog X.w X.K tg J fp it tn/\tn 0 s2.heap/\(∀b∈fp,qQ X pins H' b)/\R J H'
def PI (X:Cx)(tg iter:aca)(wi:TI):Prop:=
 ∀(pins:List (aaM×Obj)) (s:aaD) (σ:St) (H:Hp) (R:It->Hp->Prop),aE X pins σ H s->wi σ H R->
  aaW (aa1 X.prog X.w) X.A (adB iter X.env) (λv s1=>aaW (aa1 X.prog X.w) X.A (pyIter v) (Yt X pins σ tg R) X.xe s1) X.xe s
theorem yV {A:aba}{u:aak}{o:Obj}{n:String}{vs:Array aak}{Q:Unit->aaD->Prop}(ho:s.heap.get? it=some o)(hc:o.cls=.type n)(hd:o.data=.fields vs)(hn:["enumerate","zip","dict_itemiterator","dict_reverseitemiterator","odict_iterator","itertools.zip_longest","itertools.pairwise"].contains n=false)(hQ:Q () s):aaW M A (letOwnedTupleGo tg (.ref it) u) Q E s:=by
  cases tg<;>first
    |exact aae hQ
    | (cases u<;>first
        |exact aae hQ
        | (refine aaa (wpAny_load ho ?_)
           rw[hc,hd];show aaW M A (if (["enumerate","zip","dict_itemiterator","dict_reverseitemiterator","odict_iterator","itertools.zip_longest","itertools.pairwise"].contains n&&vs[0]? == some _)=true then _ else _) Q E s;rw[hZ (by intro h;rw[hn] at h;cases h)];exact aae hQ))
noncomputable def VZ (K:aai)(a:aaM):It:=
 ⟨λi H=>∃xs x,fX K H a xs/\xs[i]? = some x,λi H x H'=>H'=H/\∀xs,fX K H a xs->xs[i]? = some x,λi H=>∃xs,fX K H a xs/\xs.length<=i⟩
noncomputable def WL (K:aai)(a:aaM):It:=
 ⟨λi H=>∃xs x,gr K H a xs/\xs[i]? = some x,λi H x H'=>H'=H/\∀xs,gr K H a xs->xs[i]? = some x,λi H=>∃xs,gr K H a xs/\xs.length<=i⟩
noncomputable def V0 (lo:Int)(n:Nat):It:=⟨λi _=>i<n,λi H x H'=>H'=H/\x=.int (lo+i),λi _=>n<=i⟩
theorem EH {w:abq}(a it:aaM):w_ P w K tg (VZ K a) [it] it (λi h=>h.IsListIter it a i) where
 mem:=by simp
 obj:=λi h st b hb=>by
  have e:=by simpa using hb
  subst e;obtain⟨o,e,c,d⟩:=st;exact⟨o,e,λv z=>by rw[d] at z;cases z⟩
 keep:=λi h h' st k=>st.at λo e=>k it (by simp) o e
 item:=by
  intro X hP hw hK hc i pins s σ H E I hf st hg;subst hP hw hK;obtain⟨xs,x,hq,hx⟩:=hg;obtain⟨aD,rv,p,hz⟩:=I.list hq;obtain⟨u,hu,ru⟩:=rv.get hx;obtain⟨f0,f1,f2,f3,f4,f5⟩:=hf it (by simp);refine wpAny_pyNext_list_item st p.isList (by simpa using hu) λh' aN sb=>?_;have I1:=I.turned (t':=s.toks) (λb o hb e=>(sb.2 b hb).trans e) f0 f1 f3 f4 f5;obtain⟨o,e,c,d⟩:=id aN;exact⟨u,rfl,yV e c d (by decide) ⟨x,H,I1,ru,⟨rfl,λys hy=>by rw[I.list_inj hy hq];exact hx⟩,aN,λb hb=>(hf b hb).1⟩⟩
 done:=by
  intro X hP hw hK hc i pins s σ H E I hf st hg;subst hP hw hK;obtain⟨xs,hq,hx⟩:=hg;obtain⟨aD,rv,p,hz⟩:=I.list hq;obtain⟨f0,f1,f2,f3,f4,f5⟩:=hf it (by simp);have hl:=rv.length;exact wpAny_pyNext_list_end (I.ok.hd hc) st p.isList (by simp;lia) λh' eb=>⟨rfl,I.turned (λb o hb e=>eb b o hb e) f0 f1 f3 f4 f5⟩
 self:=λ_ _ _ _ _ st h=>wpAny_pyIter_listiter st h
theorem Be {w:abq}(a it:aaM):w_ P w K tg (WL K a) [it] it (λi h=>h.IsTupleIter it a i) where
 mem:=by simp
 obj:=λi h st b hb=>by
  have e:=by simpa using hb
  subst e;obtain⟨o,e,c,d⟩:=st;exact⟨o,e,λv z=>by rw[d] at z;cases z⟩
 keep:=λi h h' st k=>st.at λo e=>k it (by simp) o e
 item:=by
  intro X hP hw hK hc i pins s σ H E I hf st hg;subst hP hw hK;obtain⟨xs,x,hq,hx⟩:=hg;obtain⟨aD,rv,p,hz⟩:=I.tuple hq;obtain⟨u,hu,ru⟩:=rv.get hx;obtain⟨f0,f1,f2,f3,f4,f5⟩:=hf it (by simp);refine wpAny_pyNext_tuple_item st (p) (by simpa using hu) λh' aN sb=>?_;have I1:=I.turned (t':=s.toks) (λb o hb e=>(sb.2 b hb).trans e) f0 f1 f3 f4 f5;obtain⟨o,e,c,d⟩:=id aN;exact⟨u,rfl,yV e c d (by decide) ⟨x,H,I1,ru,⟨rfl,λys hy=>by rw[I.tuple_inj hy hq];exact hx⟩,aN,λb hb=>(hf b hb).1⟩⟩
 done:=by
  intro X hP hw hK hc i pins s σ H E I hf st hg;subst hP hw hK;obtain⟨xs,hq,hx⟩:=hg;obtain⟨aD,rv,p,hz⟩:=I.tuple hq;obtain⟨f0,f1,f2,f3,f4,f5⟩:=hf it (by simp);have hl:=rv.length;exact wpAny_pyNext_tuple_end (I.ok.hd hc) st (p) (by simp;lia) λh' eb=>⟨rfl,I.turned (λb o hb e=>eb b o hb e) f0 f1 f3 f4 f5⟩
 self:=λ_ _ _ _ _ st h=>wpAny_pyIter_tupleiter st h
theorem Bf {w:abq}(it:aaM)(lo:Int)(n:Nat):w_ P w K tg (V0 lo n) [it] it (λi h=>IsRangeIter h it (lo+(i:Nat)*1) ((n:Int)-(i:Nat)) 1) where
 mem:=by simp
 obj:=λi h st b hb=>by
  have e:=by simpa using hb
  subst e;exact⟨_,st,λv z=>by
   have z' :=z;cases z'⟩
 keep:=λi h h' st k=>k it (by simp) _ st
 item:=by
  intro X hP hw hK hc i pins s σ H E I hf st hg;subst hP hw hK;obtain⟨f0,f1,f2,f3,f4,f5⟩:=hf it (by simp);have W:=Walks.range (prog:=X.prog) (w:=X.w) (I.ok.hd hc) it lo 1 n;refine W.item i s _ _ hg st λv h' tk hv aN kk=>?_;obtain⟨t,rfl⟩:=hv;have I1:aE X pins σ H {s with heap:=h',toks:=tk}:=I.turned (λb o hb e=>kk b o (by simpa using hb) e) f0 f1 f3 f4 f5;refine⟨_,rfl,yV aN rfl rfl (by decide) ⟨.int _,H,I1,⟨t,?_⟩,⟨rfl,rfl⟩,aN,λb hb=>(hf b hb).1⟩⟩;rw[Int.mul_one]
 done:=by
  intro X hP hw hK hc i pins s σ H E I hf st hg;obtain⟨f0,f1,f2,f3,f4,f5⟩:=hf it (by simp);exact wpAny_pyNext_range_end (I.ok.hd hc) st (by have:n<=i:=hg;lia) λh' eb=>⟨rfl,I.turned (λb o hb e=>eb b o hb e) f0 f1 f3 f4 f5⟩
 self:=λ_ _ _ _ _ st h=>wpAny_pyIter_rangeiter st h
end L2
variable {wi:L2.TI}
namespace L2
def Tt (K:aai)(tl:TE):TI:=λσ H R=>tl σ H λx H1=>∃a,x=.ref a/\(∃xs,fX K H1 a xs)/\R (VZ K a) H1
def WM (K:aai)(tl:TE):TI:=λσ H R=>tl σ H λx H1=>∃a,x=.ref a/\(∃xs,gr K H1 a xs)/\R (WL K a) H1
theorem Lo {l:aca}{tl:TE}(hl:PE X l tl):PI X tg l (Tt X.K tl):=by
 intro pins s σ H R I h;refine dE (hl pins s σ H _ I h) λv s1 ⟨x,H1,I1,r1,q1⟩=>?_;obtain⟨a,e,⟨xs,hq⟩,q⟩:=q1;subst e;cases r1;obtain⟨aD,rv,p,hz⟩:=I1.list hq;refine adN p.isList ?_;refine⟨s1.heap.objs.size,[s1.heap.objs.size],_,_,H1,rfl,I1.kept λb o e=>aad _ e,EH a _,⟨_,aam _ rfl,rfl,rfl⟩,λb hb=>?_,q⟩;have e:=by simpa using hb
 subst e;exact I1.fpOk (aao _) (I1.hok.fresh (aao _))
theorem P_ {l:aca}{tl:TE}(hl:PE X l tl):PI X tg l (WM X.K tl):=by
 intro pins s σ H R I h;refine dE (hl pins s σ H _ I h) λv s1 ⟨x,H1,I1,r1,q1⟩=>?_;obtain⟨a,e,⟨xs,hq⟩,q⟩:=q1;subst e;cases r1;obtain⟨aD,rv,p,hz⟩:=I1.tuple hq;refine wpAny_pyIter_tuple (show s1.heap.IsTuple a _ from p) ?_;refine⟨s1.heap.objs.size,[s1.heap.objs.size],_,_,H1,rfl,I1.kept λb o e=>aad _ e,Be a _,⟨_,aam _ rfl,rfl,rfl⟩,λb hb=>?_,q⟩;have e:=by simpa using hb
 subst e;exact I1.fpOk (aao _) (I1.hok.fresh (aao _))
theorem GB {R:It->Hp->Prop}{lo hi:Int}{t u v:Tok}{tk:Nat}(I:aE X pins σ H s)(h1 : -(2 ^ 62)<=lo)(h2:lo<2 ^ 62)(h3 : -(2 ^ 62)<=hi)(h4:hi<2 ^ 62)(q:R (V0 lo (hi-lo).toNat) H):aaW (aa1 X.prog X.w) X.A (pyIter (.ref s.heap.objs.size)) (Yt X pins σ tg R) E {s with heap:=s.heap.push {cls:=.type "range",data:=.fields #[.int lo t,.int hi u,.int 1 v]},toks:=tk}:=by
 refine wpAny_pyIter_range (IsRange.new ..) (small_one h1 h2 h3 h4) ?_;have I1:aE X pins σ H {s with heap:=s.heap.push {cls:=.type "range",data:=.fields #[.int lo t,.int hi u,.int 1 v]},toks:=tk}:=I.kept λb o e=>aad _ e;refine⟨(s.heap.push _).objs.size,[(s.heap.push _).objs.size],_,_,H,rfl,
  I1.kept λb o e=>aad _ e,Bf _ lo _,?_,λb hb=>?_,q⟩
 ·have e1:lo+((0:Nat):Int)*1=lo:=by simp
  have e2:(((hi-lo).toNat:Nat):Int)-((0:Nat):Int)=aet lo hi 1:=by rw[rangeSize_one];split<;>lia
  rw[e1,e2];exact aam _ rfl
 ·have e:b=(s.heap.push {cls:=.type "range",data:=.fields #[.int lo t,.int hi u,.int 1 v]}).objs.size:=by simpa using hb
  subst e;exact I1.fpOk (aao _) (I1.hok.fresh (aao _))
def Tu (ta:TA):TI:=λσ H R=>ta σ H λvs H1=>∃j:Int,vs=[.int j]/\ -(2 ^ 62)<=j/\j<2 ^ 62/\R (V0 0 j.toNat) H1
theorem EI {a:aca}{ta:TA}{p:Pos}(hg:Gl X "range")(hm:X.mg "range"=none)(ha:PA X [a] ta)(hs:aaC [a] X.env=[(false,adB a X.env)]:=by rfl):PI X tg (.Call (.Name "range" p) [a] [] pos) (Tu ta):=by
 intro pins s σ H R I h;refine Call_ (wZ I hg hm boot_range (adE (dE (ha pos pins s σ H _ I h) λus s1 ⟨vs,H1,I1,r1,q1⟩=>?_) hs rfl));obtain⟨j,e,q1,q2,q⟩:=q1;subst e;cases r1 with
 |cons r rr=>
  cases rr;obtain⟨t,rfl⟩:=r;exact call_range_1 (GB I1 (by lia) (by lia) q1 q2 (by simpa using q))
def WN (wi:TI)(g:TG)(tb:TS):TS:=λD σ H=>wi σ H λJ H1=>∃W:Nat->Nat->St->Hp->Prop,(∃m,W 0 m σ H1)/\∀i m σ H,W i m σ H->
 (J.stop i H/\D.nx σ H)\/(J.go i H/\∃N:St->Hp->Prop,(∀σ' H',N σ' H'->∃m',m'<m/\W (i+1) m' σ' H')/\∀x H',J.yld i H x H'->g x σ H' λσ2 H2=>tb {D with nx:=N,ct:=N,bk:=D.nx} σ2 H2)
noncomputable def xa (fp:List aaM)(h:acP):List (aaM×Obj):=fp.filterMap λb=>(h.get? b).map λo=>(b,o)
def jq {o:Obj}(hb:b∈fp)(e:h.get? b=some o):(b,o)∈xa fp h:=afI.mpr ⟨b,hb,by rw[e];rfl⟩
theorem EJ {p:aaM×Obj}(hp:p∈xa fp h):p.1∈fp/\h.get? p.1=some p.2:=by
 obtain⟨b,hb,e⟩:=afI.mp hp;cases q:h.get? b with
 |none=>rw[q] at e;cases e
 |some o=>
  rw[q] at e;have e' :=aaX e;subst e';exact⟨hb,q⟩
theorem aE.pinned (I:aE X pins σ H s)(hf:∀b∈fp,qQ X pins H b)(ho:∀b∈fp,∃o,s.heap.get? b=some o/\∀v,o.data≠.cell v):aE X (pins++xa fp s.heap) σ H s:=
 I.pins_of λp hp=>(aaQ.mp hp).elim (λz=>I.pin p (aaU _ z)) λz=>by
  obtain⟨hb,e⟩:=EJ z;obtain⟨f0,f1,f2,_⟩:=hf p.1 hb;obtain⟨o,e',d⟩:=ho p.1 hb;rw[e] at e';cases e';exact⟨e,f0,f1,f2,d⟩
def aE.unpinned {pl:List (aaM×Obj)}(I:aE X (pins++pl) σ H s):aE X pins σ H s:=I.pins_of λp hp=>I.pin p (aaU _ (abX _ hp))
theorem Qa {g:TG}(hp:agc (aa1 X.prog X.w) X.A X.env X.xe)(hc:X.calm=true)(hi:PI X tg iter wi)(hg:PG X tg g)(hb:vc X body tb)(hs:∀x,acj iter X.env x=pure x:=by intro _;rfl):PS X (.For tg iter body [] pos) (WN wi g tb):=by
 intro pins s σ H D I h;refine wpAny_For (dE (hi pins s σ H _ I h) λv s1 h1=>dE h1 λWr s2 h2=>?_) hs;obtain⟨it,fp,tn,J,H2,e,I2,T,lN,f2,W,⟨m0,w0⟩,turn⟩:=h2;subst e;have Ss:∀{H':Hp},(∀b∈fp,H' b=none)->∀b∈fp,qQ X pins H' b:=λhn b hb=>⟨hn b hb,(f2 b hb).2⟩;refine codeAny_forLoop_any (λn s'=>∃i σ' H',aE X pins σ' H' s'/\tn i s'.heap/\(∀b∈fp,H' b=none)/\W i n σ' H') ?_ m0 ⟨0,σ,H2,I2,lN,λb hb=>(f2 b hb).1,w0⟩;rintro n s3 ⟨i,σ3,H3,I3,Le,fr3,w3⟩;rcases turn i n σ3 H3 w3 with⟨stop,qn⟩|⟨go,N,hN,step⟩
 ·refine ac7 hp (dE (T.done X rfl rfl rfl hc i pins s3 σ3 H3 X.xe I3 (Ss fr3) Le stop) λr s4 ⟨hr,I4⟩=>?_);subst hr;exact aes ⟨σ3,H3,I4,qn⟩
 ·refine ac7 hp (dE (T.item X rfl rfl rfl hc i pins s3 σ3 H3 X.xe I3 (Ss fr3) Le go) λr s4 ⟨u,hr,h4⟩=>?_);subst hr;refine ac7 hp (dE h4 λ_ s5 ⟨x,H5,I5,r5,y5,st5,fr5⟩=>?_);have X0:=I5.pinned (Ss fr5) (T.obj _ _ st5);refine ac7 hp (dE (hg _ s5 σ3 H5 x u _ X0 r5 (step x H5 y5)) λ_ s6 ⟨σ6,H6,I6,q6⟩=>?_);refine ac7 hp (dE (hb _ s6 σ6 H6 _ I6 q6) λf s7 q7=>?_);have again:∀{σ7:St} {H7:Hp},aE X _ σ7 H7 s7->N σ7 H7->∃m,m<n/\∃i σ' H',aE X pins σ' H' s7/\tn i _/\(∀b∈fp,H' b=none)/\W i m σ' H':=λ{σ7 H7} I7 n7=>by
   obtain⟨m',hm,w7⟩:=hN σ7 H7 n7;refine⟨m',hm,i+1,σ7,H7,I7.unpinned,T.keep _ _ _ st5 λb hb o e=>(I7.pin _ (aaU _ (aaU _ (jq hb e)))).1,λb hb=>?_,w7⟩;obtain⟨o,e,d⟩:=T.obj _ _ st5 b hb;exact (I7.pin _ (aaU _ (aaU _ (jq hb e)))).2.1
  cases f with
  |next=>obtain⟨σ7,H7,I7,n7⟩:=q7;exact again I7 n7
  |cont=>obtain⟨σ7,H7,I7,n7⟩:=q7;exact again I7 n7
  |brk=>obtain⟨σ7,H7,I7,q7⟩:=q7;exact⟨σ7,H7,I7.unpinned,q7⟩
  |ret v=>obtain⟨x7,σ7,H7,I7,r7,q7⟩:=q7;exact⟨x7,σ7,H7,I7.unpinned,r7,q7⟩
end L2
namespace L2
abbrev R2:=V->V->Hp->VK->Prop
def j6 (X:Cx)(f:aak->aak->Sem aak)(r:R2):Prop:=
 ∀(pins:List (aaM×Obj)) (s:aaD) (σ:St) (H:Hp) (x y:V) (v u:aak) (Q:VK),aE X pins σ H s->aL x v->aL y u->r x y H Q->
  aaW (aa1 X.prog X.w) X.A (f v u) (EP X pins σ Q) X.xe s
def V1 (X:Cx)(f:aak->Sem aak)(r:V->Hp->VK->Prop):Prop:=
 ∀(pins:List (aaM×Obj)) (s:aaD) (σ:St) (H:Hp) (x:V) (v:aak) (Q:VK),aE X pins σ H s->aL x v->r x H Q->
  aaW (aa1 X.prog X.w) X.A (f v) (EP X pins σ Q) X.xe s
def d5 (X:Cx)(f:aak)(r:List V->Hp->VK->Prop):Prop:=
 ∀(pins:List (aaM×Obj)) (s:aaD) (σ:St) (H:Hp) (xs:List V) (us:List aak) (Q:VK),aE X pins σ H s->aV xs us->r xs H Q->
  aaW (aa1 X.prog X.w) X.A (call f us) (EP X pins σ Q) X.xe s
def Tv (r:R2)(ta tb:TE):TE:=λσ H Q=>ta σ H λx H1=>tb σ H1 λy H2=>r x y H2 Q
def Yu (r:V->Hp->VK->Prop)(ta:TE):TE:=λσ H Q=>ta σ H λx H1=>r x H1 Q
def rI (C:Int->Int->Prop)(g:Int->Int->V):R2:=λx y H Q=>∃i j,x=.int i/\y=.int j/\C i j/\Q (g i j) H
def EK (g:Int->Int->V):R2:=λx y H Q=>∃i j,x=.int i/\y=.int j/\Q (g i j) H
def rU (g:Int->V):V->Hp->VK->Prop:=λx H Q=>∃i,x=.int i/\Q (g i) H
section
variable {a b:aca}{ta tb tc:TE}
def Qb (ha:PE X a ta)(hb:PE X b tb){R:V->V->Hp->Prop}(I:aE X pins σ H s)(h:ta σ H λx H1=>tb σ H1 λy H2=>R x y H2){f:aak->aak->Sem aak}(hf:∀v u s2 x y H2,aE X pins σ H2 s2->aL x v->aL y u->R x y H2->aaW (aa1 X.prog X.w) X.A (f v u) Q X.xe s2) :
  aaW (aa1 X.prog X.w) X.A (adB a X.env) (λv s₁=>aaW (aa1 X.prog X.w) X.A (adB b X.env) (λu s₂=>aaW (aa1 X.prog X.w) X.A (f v u) Q X.xe s₂) X.xe s₁) X.xe s:=by
 refine dE (ha pins s σ H _ I h) λv s1 ⟨x,H1,I1,r1,q1⟩=>?_;refine dE (hb pins s1 σ H1 _ I1 q1) λu s2 ⟨y,H2,I2,r2,q2⟩=>?_;exact hf v u s2 x y H2 I2 r1 r2 q2
def Tw {op:Operator}{r:R2}(ho:j6 X (adO op) r)(ha:PE X a ta)(hb:PE X b tb):PE X (.BinOp a op b pos) (Tv r ta tb):=by
 intro pins s σ H Q I h;exact wpAny_BinOp (Qb ha hb I h λv u s2 x y H2 I2 rx ry q=>ho pins s2 σ H2 x y v u Q I2 rx ry q)
def Tx {op:UnaryOp}{r:V->Hp->VK->Prop}(ho:V1 X (unaryOp op) r)(ha:PE X a ta):PE X (.UnaryOp op a pos) (Yu r ta):=by
 intro pins s σ H Q I h;exact UnaryOp_ (dE (ha pins s σ H _ I h) λv s1 ⟨x,H1,I1,r1,q1⟩=>ho pins s1 σ H1 x v Q I1 r1 q1)
theorem V2 {f:aak->aak->Sem aak}{C:Int->Int->Prop}{g:Int->Int->Int}
  (rule:∀(i j:Int) (t u:Tok) (s:aaD) (Q:aak->aaD->Prop) (E:aak->aaD->Prop),C i j->Q (.int (g i j) s.toks) {s with toks:=s.toks+1}->aaW (aa1 X.prog X.w) X.A (f (.int i t) (.int j u)) Q E s) :
  j6 X f (rI C λi j=>.int (g i j)):=by
 intro pins s σ H x y v u Q I rx ry h;obtain⟨i,j,rfl,rfl,hc,q⟩:=h;obtain⟨t,rfl⟩:=rx;obtain⟨t',rfl⟩:=ry;exact rule i j t t' s _ _ hc ⟨.int _,H,I.tok _,⟨_,rfl⟩,q⟩
theorem Tz {f:aak->aak->Sem aak}{g:Int->Int->Int}
  (rule:∀(i j:Int) (t u:Tok) (s:aaD) (Q:aak->aaD->Prop) (E:aak->aaD->Prop),Q (.int (g i j) s.toks) {s with toks:=s.toks+1}->aaW (aa1 X.prog X.w) X.A (f (.int i t) (.int j u)) Q E s) :
  j6 X f (EK λi j=>.int (g i j)):=by
 intro pins s σ H x y v u Q I rx ry h;obtain⟨i,j,rfl,rfl,q⟩:=h;obtain⟨t,rfl⟩:=rx;obtain⟨t',rfl⟩:=ry;exact rule i j t t' s _ _ ⟨.int _,H,I.tok _,⟨_,rfl⟩,q⟩
theorem Qc {f:aak->aak->Sem aak}{g:Int->Int->Bool}
  (rule:∀(i j:Int) (t u:Tok) (s:aaD) (Q:aak->aaD->Prop) (E:aak->aaD->Prop),Q (.bool (g i j)) s->aaW (aa1 X.prog X.w) X.A (f (.int i t) (.int j u)) Q E s) :
  j6 X f (EK λi j=>.bl (g i j)):=by
 intro pins s σ H x y v u Q I rx ry h;obtain⟨i,j,rfl,rfl,q⟩:=h;obtain⟨t,rfl⟩:=rx;obtain⟨t',rfl⟩:=ry;exact rule i j t t' s _ _ ⟨.bl _,H,I,rfl,q⟩
def TB (i j:Int):Prop:=0<=j/\j<=1000000/\i.natAbs<2 ^ 64
def Lp (i j:Int):Prop:=(-(2 ^ 64)<i/\i<2 ^ 64)\/(-(2 ^ 64)<j/\j<2 ^ 64)
theorem Lp.ok {i j:Int}(h:Lp i j):IntMulOk i j:=by
 rcases h with⟨h1,h2⟩|⟨h1,h2⟩
 ·exact .of_left (intBits_le_64 h1 h2)
 ·exact .of_right (intBits_le_64 h1 h2)
def Qd:j6 X (adO .Add) (EK λi j=>.int (i+j)):=Tz λ_ _ _ _ _ _ _ q=>add_int q
def GC:j6 X (adO .Sub) (EK λi j=>.int (i-j)):=Tz λ_ _ _ _ _ _ _ q=>sub_int q
def eL:j6 X (adO .Mult) (rI Lp λi j=>.int (i*j)):=V2 λ_ _ _ _ _ _ _ hc q=>mul_int q hc.ok
theorem lP:j6 X (adO .Mod) (rI (λ_ j=>0<j) λi j=>.int (i % j)):=V2 λi j _ _ _ _ _ hc q=>by
 exact mod_int' (by lia) (by rw[Int.fmod_eq_emod_of_nonneg i (by lia)];exact q)
def GD:j6 X (adO .Pow) (rI TB λi j=>.int (i ^ j.toNat)):=V2 λ_ _ _ _ _ _ _ hc q=>pow_int_small hc.1 hc.2.1 hc.2.2 q
theorem Zs {f:aak->Sem aak}{g:Int->Int}
  (rule:∀(i:Int) (t:Tok) (s:aaD) (Q:aak->aaD->Prop) (E:aak->aaD->Prop),Q (.int (g i) s.toks) {s with toks:=s.toks+1}->aaW (aa1 X.prog X.w) X.A (f (.int i t)) Q E s) :
  V1 X f (rU λi=>.int (g i)):=by
 intro pins s σ H x v Q I rx h;obtain⟨i,rfl,q⟩:=h;obtain⟨t,rfl⟩:=rx;exact rule i t s _ _ ⟨.int _,H,I.tok _,⟨_,rfl⟩,q⟩
def Qe:V1 X (unaryOp .USub) (rU λi=>.int (-i)):=Zs λ_ _ _ _ _ q=>neg_int q
end
noncomputable def TC:V->V->Bool
 | .non,.non=>true|.non,.int _=>true|.int _,.non=>true|.non,.bl _=>true|.bl _,.non=>true|.non,.str _=>true|.str _,.non=>true
 | .int _,.int _=>true|.bl _,.bl _=>true|.str _,.str _=>true|.byt _,.byt _=>true
 | .int _,.str _=>true|.str _,.int _=>true|.bl _,.str _=>true|.str _,.bl _=>true
 |_,_=>false
def Yv:R2:=λx y H Q=>TC x y=true/\Q (.bl (decide (x=y))) H
def Yw:R2:=λx y H Q=>TC x y=true/\Q (.bl (!decide (x=y))) H
def rD {i j:Int}:decide (V.int i=V.int j)=(i==j):=by
 rw[abu];simp
def xb {i j:Bool}:decide (V.bl i=V.bl j)=(i==j):=by
 rw[abu];simp
def rE {i j:Str}:decide (V.str i=V.str j)=(i==j):=by
 rw[abu];simp
theorem CH {i j:Array UInt8}:decide (V.byt i=V.byt j)=(i.toList==j.toList):=by
 rw[abu];cases i;cases j;simp
section
variable {a b:aca}{ta tb tc:TE}
theorem bz {Q:VK}{k k':Bool}(I:aE X pins σ H s)(q:Q (.bl k) H)(e:k=k'):EP X pins σ Q (.bool k') s:=by
 subst e;exact⟨.bl k,H,I,rfl,q⟩
theorem vL:j6 X (abO .Eq) Yv:=by
 intro pins s σ H x y v u Q I rx ry h;obtain⟨hs,q⟩:=h;cases x with
 |non=>
  cases rx;cases y with
  |non=>cases ry;exact PySem.EqNone.eq_none_none (bz I q (by simp))
  |bl j=>cases ry;exact PySem.EqNone.eq_none_bool (bz I q (by simp))
  |int j=>obtain⟨t',rfl⟩:=ry;exact PySem.EqNone.eq_none_int (bz I q (by simp))
  |str j=>obtain⟨t',rfl⟩:=ry;exact PySem.EqNone.eq_none_str (bz I q (by simp))
  |_=>exact absurd (show false=true from hs) aaz
 |bl i=>
  cases rx;cases y with
  |non=>cases ry;exact PySem.EqNone.eq_bool_none (bz I q (by simp))
  |bl j=>cases ry;exact eq_bool (bz I q xb)
  |str j=>obtain⟨t',rfl⟩:=ry;exact PySem.EqMixed.eq_bool_str (bz I q (by simp))
  |_=>exact absurd (show false=true from hs) aaz
 |int i=>
  obtain⟨t,rfl⟩:=rx;cases y with
  |non=>cases ry;exact PySem.EqNone.eq_int_none (bz I q (by simp))
  |int j=>obtain⟨t',rfl⟩:=ry;exact eq_int (bz I q rD)
  |str j=>obtain⟨t',rfl⟩:=ry;exact PySem.EqMixed.eq_int_str (bz I q (by simp))
  |_=>exact absurd (show false=true from hs) aaz
 |str i=>
  obtain⟨t,rfl⟩:=rx;cases y with
  |non=>cases ry;exact PySem.EqNone.eq_str_none (bz I q (by simp))
  |bl j=>cases ry;exact PySem.EqMixed.eq_str_bool (bz I q (by simp))
  |int j=>obtain⟨t',rfl⟩:=ry;exact PySem.EqMixed.eq_str_int (bz I q (by simp))
  |str j=>obtain⟨t',rfl⟩:=ry;exact eq_str (bz I q rE)
  |_=>exact absurd (show false=true from hs) aaz
 |byt i=>
  obtain⟨t,rfl⟩:=rx;cases y with
  |byt j=>obtain⟨t',rfl⟩:=ry;exact PySem.W.eq_bytes (bz I q CH)
  |_=>exact absurd (show false=true from hs) aaz
 |_=>cases y<;>exact absurd (show false=true from hs) aaz
theorem GF:j6 X (abO .NotEq) Yw:=by
 intro pins s σ H x y v u Q I rx ry h;obtain⟨hs,q⟩:=h;cases x with
 |non=>
  cases rx;cases y with
  |non=>cases ry;exact PySem.EqNone.ne_none_none (bz I q (by simp))
  |bl j=>cases ry;exact PySem.EqNone.ne_none_bool (bz I q (by simp))
  |int j=>obtain⟨t',rfl⟩:=ry;exact PySem.EqNone.ne_none_int (bz I q (by simp))
  |str j=>obtain⟨t',rfl⟩:=ry;exact PySem.EqNone.ne_none_str (bz I q (by simp))
  |_=>exact absurd (show false=true from hs) aaz
 |bl i=>
  cases rx;cases y with
  |non=>cases ry;exact PySem.EqNone.ne_bool_none (bz I q (by simp))
  |bl j=>cases ry;exact ne_bool (bz I q (congrArg not xb))
  |str j=>obtain⟨t',rfl⟩:=ry;exact PySem.EqMixed.ne_bool_str (bz I q (by simp))
  |_=>exact absurd (show false=true from hs) aaz
 |int i=>
  obtain⟨t,rfl⟩:=rx;cases y with
  |non=>cases ry;exact PySem.EqNone.ne_int_none (bz I q (by simp))
  |int j=>obtain⟨t',rfl⟩:=ry;exact ne_int (bz I q (congrArg not rD))
  |str j=>obtain⟨t',rfl⟩:=ry;exact PySem.EqMixed.ne_int_str (bz I q (by simp))
  |_=>exact absurd (show false=true from hs) aaz
 |str i=>
  obtain⟨t,rfl⟩:=rx;cases y with
  |non=>cases ry;exact PySem.EqNone.ne_str_none (bz I q (by simp))
  |bl j=>cases ry;exact PySem.EqMixed.ne_str_bool (bz I q (by simp))
  |int j=>obtain⟨t',rfl⟩:=ry;exact PySem.EqMixed.ne_str_int (bz I q (by simp))
  |str j=>obtain⟨t',rfl⟩:=ry;exact ne_str (bz I q (congrArg not rE))
  |_=>exact absurd (show false=true from hs) aaz
 |byt i=>
  obtain⟨t,rfl⟩:=rx;cases y with
  |byt j=>obtain⟨t',rfl⟩:=ry;exact PySem.W.ne_bytes (bz I q (congrArg not CH))
  |_=>exact absurd (show false=true from hs) aaz
 |_=>cases y<;>exact absurd (show false=true from hs) aaz
def GG:j6 X (abO .Lt) (EK λi j=>.bl (decide (i<j))):=Qc λ_ _ _ _ _ _ _ q=>lt_int q
def qb:j6 X (abO .Gt) (EK λi j=>.bl (decide (j<i))):=Qc λ_ _ _ _ _ _ _ q=>gt_int q
def TF:j6 X (abO .GtE) (EK λi j=>.bl (decide (j<=i))):=Qc λ_ _ _ _ _ _ _ q=>ge_int q
theorem Qf:j6 X (abO .Is) (λx y H Q=>y=.non/\Q (.bl (decide (x=.non))) H):=by
 intro pins s σ H x y v u Q I rx ry h;obtain⟨rfl,q⟩:=h;cases ry;refine is_none_gen (bz I q ?_);cases x<;>first
  | (rfl)
  | (obtain⟨t,rfl⟩:=rx;rfl)
theorem Lq:j6 X (abO .IsNot) (λx y H Q=>y=.non/\Q (.bl (!decide (x=.non))) H):=by
 intro pins s σ H x y v u Q I rx ry h;obtain⟨rfl,q⟩:=h;cases ry;refine isnot_none_gen (bz I q ?_);cases x<;>first
  | (rfl)
  | (obtain⟨t,rfl⟩:=rx;rfl)
theorem j6.or {f:aak->aak->Sem aak}{r r':R2}(h:j6 X f r)(h':j6 X f r'):j6 X f (λx y H Q=>r x y H Q\/r' x y H Q):=by
 intro pins s σ H x y v u Q I rx ry q;rcases q with q|q
 ·exact h pins s σ H x y v u Q I rx ry q
 ·exact h' pins s σ H x y v u Q I rx ry q
theorem bN (b:aca)(h:op≠.In:=by decide)(h2:op≠.NotIn:=by decide):aeu op b=false:=by
 have e1:(op==CmpOp.In)=false:=by cases op<;>first|rfl|exact absurd rfl h
 have e2:(op==CmpOp.NotIn)=false:=by cases op<;>first|rfl|exact absurd rfl h2
 cases b<;>simp[aeu,e1,e2]
def Lr {r:R2}(ho:j6 X (abO op) r)(ha:PE X a ta)(hb:PE X b tb)(hm:aeu op b=false):PE X (.Compare a [op] [b] pos) (Tv r ta tb):=by
 intro pins s σ H Q I h;exact wpAny_Compare1 (Qb ha hb I h λv u s2 x y H2 I2 rx ry q=>ho pins s2 σ H2 x y v u Q I2 rx ry q) hm
def TH (t:TE):TT:=λσ H Q=>t σ H λx H'=>∃k,x=.bl k/\Q k H'
theorem Ls {r:R2}(ho:j6 X (abO op) r)(ha:PE X a ta)(hb:PE X b tb)(hm:aeu op b=false):PT X (.Compare a [op] [b] pos) (TH (Tv r ta tb)):=by
 intro pins s σ H Q I h;refine wpAny_isTrue_Compare1 (dE (ha pins s σ H _ I h) λv s1 ⟨x,H1,I1,r1,q1⟩=>dE (hb pins s1 σ H1 _ I1 q1) λu s2 ⟨y,H2,I2,r2,q2⟩=>
  dE (ho pins s2 σ H2 x y v u _ I2 r1 r2 q2) λc s3 ⟨z,H3,I3,r3,k,e,q3⟩=>?_) hm
 subst e;cases r3;exact adM ⟨H3,I3,q3⟩
def xc:(aah:Nat)<2 ^ 63:=by decide
theorem gX {x:V}{us:List aak}(r:aV [x] us):∃u,us=[u]/\aL x u:=by
 cases r with
 |cons r1 r2=>cases r2;exact⟨_,rfl,r1⟩
theorem NK {x:V}{us:List aak}(r:aV [x,y] us):∃u w',us=[u,w']/\aL x u/\aL y w':=by
 cases r with
 |cons r1 r2=>
  cases r2 with
  |cons r3 r4=>cases r4;exact⟨_,_,rfl,r1,r3⟩
theorem yW:d5 X (.builtin "abs") (λxs H Q=>∃i,xs=[.int i]/\Q (.int (if i<0 then -i else i)) H):=by
 intro pins s σ H xs us Q I r h;obtain⟨i,rfl,q⟩:=h;obtain⟨u,rfl,t,rfl⟩:=gX r;exact call_abs_int λu tk=>⟨.int _,H,I.tok _,⟨_,rfl⟩,q⟩
theorem EL (hc:X.calm=true):d5 X (.builtin "max") (λxs H Q=>∃i j,xs=[.int i,.int j]/\Q (.int (if j>i then j else i)) H):=by
 intro pins s σ H xs us Q I r h;obtain⟨i,j,rfl,q⟩:=h;obtain⟨u,w',rfl,⟨t,rfl⟩,⟨t',rfl⟩⟩:=NK r;refine max_two_ints (I.ok.hd hc) λh' tk k=>⟨_,H,I.kept k,?_,q⟩;by_cases hj:j>i
 ·rw[h9 hj,h9 hj];exact⟨_,rfl⟩
 ·rw[hZ hj,hZ hj];exact⟨_,rfl⟩
theorem oQ (hc:X.calm=true):d5 X (.builtin "min") (λxs H Q=>∃i j,xs=[.int i,.int j]/\Q (.int (if j<i then j else i)) H):=by
 intro pins s σ H xs us Q I r h;obtain⟨i,j,rfl,q⟩:=h;obtain⟨u,w',rfl,⟨t,rfl⟩,⟨t',rfl⟩⟩:=NK r;refine min_two_ints (I.ok.hd hc) λh' tk k=>⟨_,H,I.kept k,?_,q⟩;by_cases hj:j<i
 ·rw[h9 hj,h9 hj];exact⟨_,rfl⟩
 ·rw[hZ hj,hZ hj];exact⟨_,rfl⟩
def TJ (K:aai)(x:V)(H:Hp)(n:Nat):Prop:=
 match x with
 | .str y=>y.length<=aah/\n=y.length
 | .byt y=>y.size<=aah/\n=y.size
 | .ref p=>(∃xs,fX K H p xs/\n=xs.length)\/∃xs,gr K H p xs/\n=xs.length
 |_=>False
theorem dq:d5 X (.builtin "len") (λxs H Q=>∃x n,xs=[x]/\TJ X.K x H n/\Q (.int n) H):=by
 intro pins s σ H xs us Q I r h;obtain⟨x,n,rfl,e,q⟩:=h;obtain⟨u,rfl,rx⟩:=gX r;have hs:=ack;cases x with
 |str y=>
  obtain⟨t,rfl⟩:=rx;obtain⟨hy,e'⟩:y.length<=aah/\n=y.length:=e;subst e';exact len_str (by lia) ⟨.int _,H,I.tok _,⟨_,rfl⟩,q⟩
 |byt y=>
  obtain⟨t,rfl⟩:=rx;obtain⟨hy,e'⟩:y.size<=aah/\n=y.size:=e;subst e';exact PySem.W.len_bytes (by lia) ⟨.int _,H,I.tok _,⟨_,rfl⟩,q⟩
 |ref p=>
  cases rx;have e' :=e;rcases e' with⟨xs,hx,e'⟩|⟨xs,hx,e'⟩
  ·subst e';obtain⟨aD,r',pl,hz⟩:=I.list hx;have fg:=r'.length;exact Calls.call_len_list pl.isList (by simp only[aax];lia) ⟨.int _,H,I.tok _,⟨_,by simp only[aax];rw[fg]⟩,q⟩
  ·subst e';obtain⟨aD,r',pl,hz⟩:=I.tuple hx;have fg:=r'.length;exact len_tuple pl (by simp only[aax];lia) ⟨.int _,H,I.tok _,⟨_,by simp only[aax];rw[fg]⟩,q⟩
 |_=>exact (show False from e).elim
end
end L2
variable {r:L2.R2}
namespace L2
structure Zt (h:acP)(x dx C:aaM)(mA:Str->Option aak):Prop where
 obj:h.get? x=some (PySem.W.instObj C dx)
 ns:h.Ns1 dx mA
 ne:dx≠x
theorem mR.some_of {o:Option aak}(r:mR (some v) o):∃u,o=some u/\aL v u:=by
 cases o with
 |none=>exact (show False from r).elim
 |some u=>exact⟨u,rfl,r⟩
structure Gi (K:aai)(C:aaM):Prop where
 pg:PySem.W.plainGet K C Str.empty=true
 hd:PySem.W.hasDictIn K C=true
 po:PySem.W.plainOver K C=true
 sa:ad5 K (.ref C) "__setattr__"=some (some (.builtin "object.__setattr__"))
def Qg (K:aai)(C:aaM)(f:Str):Prop:=ad5 K (.ref C) f=some none
structure Con (K:aai)(C:aaM)(f:Str)(v:V)(u:aak):Prop where
 at_:ad5 K (.ref C) f=some (some u)
 rel:aL v u
 get:PySem.W.specialIn K u "__get__"=some none
 cp:PySem.W.copiedNames.contains f=false
structure Zu (K:aai)(C:aaM)(m:Str)(f:aaM):Prop where
 at_:ad5 K (.ref C) m=some (some (.ref f))
 fn:PySem.W.isFn K (.ref f)=true
 kp:acb K (.ref f)=true
section
variable {A:aba}{c:aak}{b:Bool}
inductive r_ (K:aai)(H:Hp):V->aak->Prop where
 |non:r_ K H .non (.type "NoneType")
 |bl (x:Bool):r_ K H (.bl x) (.type "bool")
 |int (i:Int):r_ K H (.int i) (.type "int")
 |str (x:Str):r_ K H (.str x) (.type "str")
 |flt (x:UInt64):r_ K H (.flt x) (.type "float")
 |lst {a:aaM} {xs:List V} (e:H a=some (.lst xs)):r_ K H (.ref a) (.type "list")
 |frz {a:aaM} {o:Obj} {xs:List V} (e:H a=some (.frz o (.lst xs))):r_ K H (.ref a) (.type "list")
 |tup {a:aaM} {xs:List V} (e:H a=some (.tup xs)):r_ K H (.ref a) (.type "tuple")
 |dK {a:aaM} {aX:List (Key×V)} (e:H a=some (.dK aX)):r_ K H (.ref a) (.type "dict")
 |dT {a:aaM} {aX:List (List Key×V)} (e:H a=some (.dT aX)):r_ K H (.ref a) (.type "dict")
 |ins {a C dx:aaM} {fs:List (Str×V)} (e:H a=some (.ins C dx fs)) (cl:Gi K C) (ha:ad5 K (.ref C) "__class__"=some (some (.builtin "object.__class__")))
   (hn:PySem.W.specialIn K (.builtin "object.__class__") "__get__"=some (some (.builtin "getset_descriptor.__get__"))) (htk:PySem.W.takesIn K (.builtin "object.__class__")=some true)
   (hm:PySem.W.mroIn K C (.type "object")=some true):r_ K H (.ref a) (.ref C)
end
end L2
namespace L2
structure dS (k:Nat)(A:aba):Prop where
 hd:A.handled=none
 dp:A.depth+3*k+5<recursionLimit
 un:A.units+16*k+200<abI
theorem dS.mono {A:aba}(r:dS k A)(h:j<=k):dS j A:=⟨r.hd,by have:=r.dp;lia,by have:=r.un;lia⟩
theorem dS.deeper {A:aba}(r:dS (k+1) A)(env:Env):dS k (A.deeper env):=
 ⟨r.hd,by have:=r.dp;show A.depth+1+3*k+5<_;lia,by have:=r.un;show A.units+3+16*k+200<_;lia⟩
theorem dS.depth {A:aba}(r:dS k A):A.depth<recursionLimit:=by have:=r.dp;lia
theorem dS.units {A:aba}(r:dS k A):A.units+64<abI:=by have:=r.un;lia
def WO:TA:=λ_ H Q=>Q [] H
def TL (ta:TE)(tr:TA):TA:=λσ H Q=>ta σ H λx H1=>tr σ H1 λxs H2=>Q (x::xs) H2
section
variable {e:aca}{es:List aca}{t:TA}
def jr:PA X [] WO:=λ_ _ _ _ H Q I h=>afW ⟨[],H,I,.nil,h⟩
def fQ (ha:PE X e te)(hr:PA X es t)(hs:aaC (e::es) X.env=(false,adB e X.env)::aaC es X.env:=by rfl):PA X (e::es) (TL te t):=by
 intro pos pins s σ H Q I h;rw[hs];refine aev (dE (ha pins s σ H _ I h) λu s1 ⟨x,H1,I1,r1,q1⟩=>?_);exact dE (hr pos pins s1 σ H1 _ I1 q1) λus s2 ⟨xs,H2,I2,r2,q2⟩=>⟨x::xs,H2,I2,.cons r1 r2,q2⟩
def WQ (t:TA):TE:=λσ H Q=>t σ H λxs H1=>xs.length<=aah/\∀p,H1 p=none->Q (.ref p) (cT H1 p (.tup xs))
def WR (t:TA):TE:=λσ H Q=>t σ H λxs H1=>xs.length<=aah/\∀p,H1 p=none->Q (.ref p) (cT H1 p (.lst xs))
def Qh {x1}(h:PA X es t):PE X (.Tuple es x1 pos) (WQ t):=by
 intro pins s σ H Q I hq;refine wpAny_Tuple_spliced (dE (h pos pins s σ H _ I hq) λus s1 ⟨xs,H1,I1,r,z,q⟩=>⟨by rw[←r.length];exact z,?_⟩);have hf:=I1.hok.fresh (aao _);refine⟨.ref _,cT H1 _ _,I1.laid (λb u e=>aad _ e) (aao _) ?_,rfl,q _ hf⟩;exact⟨z,us,r,⟨_,aam _ rfl,rfl,_,rfl⟩,_,aam _ rfl⟩
def Qi (h:PA X es t):PE X (.List es pos) (WR t):=by
 intro pins s σ H Q I hq;refine wpAny_List_spliced (dE (h pos pins s σ H _ I hq) λus s1 ⟨xs,H1,I1,r,z,q⟩=>⟨by rw[←r.length];exact z,?_⟩);have hf:=I1.hok.fresh (aao _);refine⟨.ref _,cT H1 _ _,I1.laid (λb u e=>aad _ e) (aao _) ?_,rfl,q _ hf⟩;exact⟨z,us,0,r,aam _ rfl⟩
end
abbrev Sp:=List V->Hp->VK->XK->Prop
abbrev CXT:=List Env->Hp->aaD->XK->aak->aaD->Prop
structure GH (P:acC)(w:abq)(K:aai)(mg:Str->Option aak)(base:acP)(A:aba)(outer:List Env)(s:aaD)(H:Hp):Prop where
 frames:A.frames=some outer
 mod:Mod K mg base
 bs:∀b o,base.get? b=some o->s.heap.get? b=some o/\H b=none
 bsz:base.objs.size<=s.heap.objs.size
 funs:s.heap.FunFrames base outer
 frf:∀b∈vJ outer,H b=none
 hok:jn P w H s.heap
 bare:afN s.gens
def CE (outer:List Env)(P:acC)(w:abq)(H:Hp)(s:aaD)(Q:VK)(u:aak)(s':aaD):Prop:=
 ∃v H',s'.os=s.os/\afN s'.gens/\Un (vJ outer) [] H H' s.heap s'.heap/\jn P w H' s'.heap/\aL v u/\Q v H'
def CR (CX:CXT)(outer:List Env)(P:acC)(w:abq)(H:Hp)(s:aaD)(Q:VK)(E:XK)(r:Result)(s':aaD):Prop:=
 match r with
 | .ok (.ret u)=>CE outer P w H s Q u s'
 | .ok _=>False
 | .error e=>CX outer H s E e s'
structure iP (P:acC)(w:abq)(K:aai)(mg:Str->Option aak)(base:acP)(CX:CXT)(k:Nat)(f:aaM)(fd:adA)(ps:List Str)(sp:Sp):Prop where
 len:∀vs H Q E,sp vs H Q E->vs.length=ps.length
 run:∀(A:aba) (outer:List Env) (s:aaD) (H:Hp) (args:Args) (us:List aak) (vs:List V) (Q:VK) (E:XK),dS k A->GH P w K mg base A outer s H->BindsTo s fd args (ps.zip us)->aV vs us->sp vs H Q E->
  codeAny (aa1 P w) A (.call (.ref f) args) (CR CX outer P w H s Q E) s
theorem iP.imp {w:abq}{base:acP}{CX:CXT}{sp YY:Sp}(F:iP P w K mg base CX k f fd ps sp)(h:∀vs H Q E,YY vs H Q E->sp vs H Q E):iP P w K mg base CX k f fd ps YY:=
 ⟨λvs H Q E q=>F.len vs H Q E (h _ _ _ _ q),λA outer s H args us vs Q E hr he hb hv hs=>F.run A _ s H args us vs Q E hr he hb hv (h _ _ _ _ hs)⟩
section
variable {s':aaD}
def aE.env0 (I:aE X pins σ H s):GH X.prog X.w X.K X.mg X.base X.A X.stack s H:=
 ⟨I.ok.frames,I.ok.mod,I.bs,aaR I.ok.bsz I.sz,I.stack,I.stkFree,I.hok,I.bare⟩
theorem aE.after {Q:VK}{u:aak}(I:aE X pins σ H s)(h:CE X.stack X.prog X.w H s Q u s'):EP X pins σ Q u s':=by
 obtain⟨v,H',os,bare,un,hok,r,q⟩:=h;obtain⟨hh,g,d,t,os'⟩:=s';obtain rfl:os'=s.os:=os;exact⟨v,H',I.call un hok bare (λb z=>absurd z (by simp)),r,q⟩
end
def NL (sp:Sp)(S8:List V)(E:XK)(t:TA):TE:=λσ H Q=>t σ H λvs H1=>sp (vs++S8) H1 Q E
def j9 (K:aai)(fd:adA)(ps:List Str)(ds:List aak):Prop:=
 ∀(s:aaD) (us:List aak),K.In s.heap->(us++ds).length=ps.length->BindsTo s fd ⟨us,[]⟩ (ps.zip (us++ds))
def j9.all (h:∀us:List aak,us.length=ps.length->afJ fd ⟨us,[]⟩=pure (ps.zip us)):j9 K fd ps []:=λs us _ hl=>by
 rw[aa2] at hl ⊢;exact .of_eq (h us hl)
def Bg (CX:CXT)(X:Cx)(E:XK):Prop:=∀(pins:List (aaM×Obj)) (σ:St) (H:Hp) (s:aaD) (e:aak) (s':aaD),aE X pins σ H s->CX X.stack H s E e s'->X.xe e s'
section
variable {CX:CXT}{C:aaM}{sp:Sp}{S8:List V}{ds:List aak}{E:XK}{m:Str}{p bW:Pos}{e o:aca}{es:List aca}{ta:TE}{t:TA}
theorem Qj {Q:VK}{us:List aak}(F:iP X.prog X.w X.K X.mg X.base CX k f fd ps sp)(hr:dS k X.A)(hb:j9 X.K fd ps ds)(hd:aV S8 ds)(hx:Bg CX X E)(I:aE X pins σ H s)(r:aV vs us)(h:sp (vs++S8) H Q E):aaW (aa1 X.prog X.w) X.A (call (.ref f) us) (EP X pins σ Q) X.xe s:=by
 have r2:=r.append hd;have hl:(us++ds).length=ps.length:=by rw[←r2.length];exact F.len _ _ _ _ h
 refine wpAny_call (ael (F.run X.A _ s H _ _ _ Q E hr I.env0 (hb s us I.kIn hl) r2 h) λr s' hq=>?_);cases r with
 |error e=>exact hx pins σ H s e s' I hq
 |ok fl=>
  cases fl with
  |ret u=>exact I.after hq
  |next=>exact acB hq
  |brk=>exact acB hq
  |cont=>exact acB hq
def Lu (F:iP X.prog X.w X.K X.mg X.base CX k f fd ps sp)(hr:dS k X.A)(hg:Gl X x)(hm:X.mg x=some (.ref f))(hk:acb X.K (.ref f)=true)(hb:j9 X.K fd ps ds)(hd:aV S8 ds)(hx:Bg CX X E)
  (ha:PA X (e::es) t) (wR:(x==("__debug__":Str))=false:=by decide) (he:aaC (e::es) X.env=(false,adB e X.env)::aaC es X.env:=by rfl) (pY:(acq pos (aaC es X.env)).any (·.1)=false:=by rfl) :
  PE X (.Call (.Name x p) (e::es) [] pos) (NL sp S8 E t):=by
 intro pins s σ H Q I h;refine aew (mS I hg hm ?_ wR);refine PySem.W.callWith_K I.ok.mod.kin hk (dE (ha pos pins s σ H _ I h) λus s1 ⟨vs,H1,I1,r,q⟩=>⟨I1.kIn,?_⟩) he pY;exact Qj F hr hb hd hx I1 r q
structure Mk (K:aai)(C f:aaM):Prop where
 makes:PySem.W.makesIn K C=true
 init:ad5 K (.ref C) "__init__"=some (some (.ref f))
 fn:PySem.W.isFn K (.ref f)=true
 kp:acb K (.ref C)=true
end
section
variable {CX:CXT}{C:aaM}{ks:List Str}{sp:Sp}{E:XK}{m:Str}{p bW kpos:Pos}{e o:aca}{es:List aca}{kws:List aex}{ta:TE}{t tk:TA}{nm:Option Str}
structure WS (K:aai)(fd:adA)(ps ks:List Str)(g:List aak->List aak->List aak)(gV:List V->List V->List V):Prop where
 to:∀(s:aaD) (us ws:List aak),K.In s.heap->(g us ws).length=ps.length->BindsTo s fd ⟨us,ks.zip ws⟩ (ps.zip (g us ws))
 rel:∀{vs:List V} {us:List aak} {zs:List V} {ws:List aak},aV vs us->aV zs ws->aV (gV vs zs) (g us ws)
variable {g:List aak->List aak->List aak}{gV:List V->List V->List V}
end
structure aK (N P:List Str)(sc:afV):Prop where
 kind:sc.kind=.function
 co:sc.isCoroutine=false
 gen:sc.isGenerator=false
 nd:N.Nodup
 pre:N.take P.length=P
 par:∀x∈P,sc.names.lookup x=some .local\/sc.names.lookup x=some .cell
 nofree:∀y∈sc.names,y.2≠.free
theorem vM {abY:Str->Option agd}{x:Str}:∀{binds:List (Str×aak)} {m:Str->Option aak},(∀v,(x,v)∉binds)->bindL abY binds m x=m x
 | [],_,_=>rfl
 | (n,v)::r,m,h=>by
  unfold bindL;rw[vM λw hw=>h w (aan _ hw)];split
  ·have:x≠n:=by rintro rfl;exact h v aal
   simp[this]
  ·rfl
theorem vN {abY:Str->Option agd}{x:Str}:∀{binds:List (Str×aak)} {m:Str->Option aak},(∀v,(x,v)∉binds)->bindC abY binds m x=m x
 | [],_,_=>rfl
 | (n,v)::r,m,h=>by
  unfold bindC;rw[vN λw hw=>h w (aan _ hw)];split
  ·rfl
  ·have:x≠n:=by rintro rfl;exact h v aal
   simp[this]
theorem vO {abY:Str->Option agd}{x:Str}{v:aak}:∀{P:List Str} {vs:List aak} {i:Nat} {m:Str->Option aak},P.Nodup->P[i]? = some x->vs[i]? = some v->abY x=some .local->
  bindL abY (P.zip vs) m x=some v
 | [],_,_,_,_,h,_,_=>by simp at h
 |_::_,[],_,_,_,_,h,_=>by simp at h
 |p::P,w::vs,0,m,nd,h1,h2,hk=>by
  simp at h1 h2;subst h1;subst h2;show bindL _ ((p,w)::P.zip vs) m p=_;unfold bindL;rw[vM λv hv=>(abB.mp nd).1 (aey hv).1,h9 hk];simp
 |p::P,w::vs,i+1,m,nd,h1,h2,hk=>by
  unfold bindL;exact vO (abB.mp nd).2 (by simpa using h1) (by simpa using h2) hk
theorem vP {abY:Str->Option agd}{x:Str}{v:aak}:∀{P:List Str} {vs:List aak} {i:Nat} {m:Str->Option aak},P.Nodup->P[i]? = some x->vs[i]? = some v->abY x≠some .local->
  bindC abY (P.zip vs) m x=some v
 | [],_,_,_,_,h,_,_=>by simp at h
 |_::_,[],_,_,_,_,h,_=>by simp at h
 |p::P,w::vs,0,m,nd,h1,h2,hk=>by
  simp at h1 h2;subst h1;subst h2;show bindC _ ((p,w)::P.zip vs) m p=_;unfold bindC;rw[vN λv hv=>(abB.mp nd).1 (aey hv).1,hZ hk];simp
 |p::P,w::vs,i+1,m,nd,h1,h2,hk=>by
  unfold bindC;exact vP (abB.mp nd).2 (by simpa using h1) (by simpa using h2) hk
noncomputable def start (N:List Str)(vs:List V):St:=vs.map some++aa9 (N.length-vs.length) none
noncomputable def gG (CX:CXT)(P:acC)(w:abq)(K:aai)(mg:Str->Option aak)(base:acP)(N:List Str)(qual:Str)(scope:afV)(f:aaM)(cd:aak)(A:aba)(outer:List Env)(s:aaD)(H:Hp)(E:XK):Cx where
 prog:=P
 w:=w
 K:=K
 mg:=mg
 base:=base
 A:=A.deeper (ac5 qual scope s.heap.objs.size f cd)
 N:=N
 s₀:=s
 H₀:=H
 env:=ac5 qual scope s.heap.objs.size f cd
 outer:=outer
 stack:=ac5 qual scope s.heap.objs.size f cd::outer
 ex:=[]
 calm:=true
 fn:=λ_=>true
 pn:=[]
 xe:=λe s'=>aaW (aa1 P w) (A.deeper (ac5 qual scope s.heap.objs.size f cd)) (leaving (ac5 qual scope s.heap.objs.size f cd) e) (λ_ Su=>CX outer H s E e Su) (λe' Su=>CX outer H s E e' Su) s'
def yX {sc:afV}(h:sc.names.lookup x=some .cell):∃c,(cellsFrom n sc.names []).lookup x=some c:=by
 have q:=PySem.W.cellsFrom_some _ n [] (.inl h);exact aem.mp q
theorem EM {CX:CXT}{w:abq}{base:acP}{cd:aak}{A:aba}{outer:List Env}{s1:aaD}{E:XK}{us:List aak}(S:aK N ps scope)(hd:A.handled=none)(e0:GH P w K mg base A outer s H)(hl:vs.length=ps.length)(r:aV vs us)(x:InCallC s s.heap.objs.size (bindL (ac5 qual scope s.heap.objs.size f cd).kindOf (ps.zip us) λ_=>none) (cellsFrom (s.heap.objs.size+1) scope.names []) (bindC (ac5 qual scope s.heap.objs.size f cd).kindOf (ps.zip us) λ_=>none) s1) :
  aE (gG CX P w K mg base N qual scope f cd A outer s H E) [] (start N vs) H s1:=by
 have pY:ps.length<=N.length:=by have:=congrArg afs S.pre;rw[aaE] at this;lia
 obtain⟨h1,tk,rfl,hk⟩:=x.done;have Vy:∀b ,b∉(gG CX P w K mg base N qual scope f cd A outer s H E).ex:=λb z=>absurd (show b∈([]:List aaM) from z) (by simp);refine⟨⟨e0.mod,S.kind,rfl,rfl,aao _,λy z c h1 h2=>?_,λy hy=>?_,λy c _ h=>?_,λ_=>hd,Around.frames_deeper e0.frames,.inr ⟨rfl,rfl⟩,λb z=>absurd z (Vy b),e0.bs,e0.bsz,λb _ _=>Vy b,λb z=>absurd z (Vy b),e0.funs,e0.frf⟩,
  rfl,e0.bare,Un.kept hk,⟨_,x.toInCall.ns,λi y v h1 h2 h3=>?_⟩,λy c h=>⟨_,x.cell y c h⟩,e0.hok.fresh (aao _),λy c h=>?_,λp hp=>absurd (show p∈([]:List _) from hp) (by simp),e0.hok.kept hk,?_⟩
 ·exact name_of_addr x.apart (abG h1) (abG h2)
 ·rcases hy with hy|hy
  ·exact yX hy
  ·exact absurd rfl (S.nofree _ (abG hy))
 ·exact afH (x.above y c (abG h))
 ·have hi:i<vs.length:=by
   unfold start at h2;by_cases hi:i<vs.length
   ·exact hi
   ·rw[abW (by simpa using hi)] at h2;rw[List.getElem?_replicate] at h2;split at h2<;>cases h2
  have ha:vs[i]? = some v:=by
   unfold start at h2;rw[acs (by simpa using hi),aar] at h2;cases e:vs[i]? with
   |none=>rw[e] at h2;cases h2
   |some a=>rw[e] at h2;cases h2;rfl
  obtain⟨u,hu,rv⟩:=r.get ha;have hp:ps[i]? = some y:=by
   rw[←S.pre,List.getElem?_take_of_lt (by lia)];exact h1
  have YZ:ps.Nodup:=by rw[←S.pre];exact S.nd.sublist (afX _ _)
  refine⟨u,rv,?_⟩;rcases S.par y (aaZ hp) with k|k
  ·exact .inl ⟨k,vO YZ hp hu k⟩
  ·obtain⟨c,e⟩:=yX k;refine .inr ⟨.inl k,c,e,?_⟩;have q:=x.cell y c e;rw[vP YZ hp hu (by show scope.names.lookup y≠_;rw[k];decide)] at q;exact q
 ·exact e0.hok.fresh (afH (x.above y c (abG h)))
 ·unfold start;show _=N.length;rw[aaj,aab,acw];lia
theorem NM {CX:CXT}{w:abq}{base:acP}{name:Str}{params:Arguments}{dV kV kN pm cA ct oc:aak}{an od:Option aaM}{NB:Array (Option aak)}{sp:Sp}(lk:K.lookup f=some ⟨oc,od,.func (abP name qual params body scope dV kV kN pm an cA ct),NB⟩)(oJ:afO K cA qual=true)(S:aK N ps scope)(len:∀vs H Q E,sp vs H Q E->vs.length=ps.length)(eG:∀(A:aba) (outer:List Env) (s:aaD) (H:Hp) (vs:List V) (Q:VK) (E:XK),dS k (A.deeper (ac5 qual scope s.heap.objs.size f cA))->sp vs H Q E->
   ∃t,vc (gG CX P w K mg base N qual scope f cA A outer s H E) body t/\t {nx:=λ_ H'=>Q .non H',rt:=Q} (start N vs) H) :
  iP P w K mg base CX (k+1) f (abP name qual params body scope dV kV kN pm an cA ct) ps sp:=by
 refine⟨len,λA outer s H args us vs Q E hr e0 hb r Pu=>?_⟩;have hl:=len _ _ _ _ Pu;have KX:=e0.mod.kin.keeps λb o e=>(e0.bs b o e).1;have ZI:=e0.mod.nolimit.keeps λb o e=>(e0.bs b o e).1;have Vz:∀y∈ps.zip us,scope.names.lookup y.1=some _\/(scope.names.lookup y.1=some _/\((cellsFrom (s.heap.objs.size+1) _ []).lookup y.1).isSome=true):=fun⟨n,v⟩ hy=>by
  rcases S.par n (aey hy).1 with q|q
  ·exact .inl q
  ·exact .inr ⟨q,PySem.W.cellsFrom_some _ _ _ (.inl q)⟩
 refine codeAny_call_function hr.depth (KX _ _ lk) rfl S.co S.gen rfl (PySem.W.codeRec_of KX oJ) (hb _ _ _ _ ?_);refine wpAny_newFunctionEnv_cells S.kind Vz λenv he s1 x=>?_;subst he;refine⟨ZI.keeps x.toInCall.keep,codeAny_func ?_⟩;obtain⟨t,ht,hq⟩:=eG A _ s H vs Q E (hr.deeper _) Pu;have I:aE (gG CX P w K mg base N qual _ f cA A _ s H E) [] _ H s1:=EM S hr.hd e0 hl r x;refine abk (ht [] s1 _ H _ I hq) (λfl s' hs=>?_) λe s' hs=>hs;have fin:∀{σ':St} {H':Hp} {v:V} {u:aak},aE (gG CX P w K mg base N qual scope f cA A _ s H E) [] σ' H' s'->aL v u->Q v H'->CE outer P w H s Q u s' :=
  λ{σ' H' v u} J rv q=>⟨v,H',J.os,J.bare,J.base,J.hok,rv,q⟩
 cases fl with
 |ret u=>
  obtain⟨v,σ',H',J,rv,q⟩:=hs;exact fin J rv q
 |next=>
  obtain⟨σ',H',J,q⟩:=hs;exact fin (v:=V.non) J rfl q
 |brk=>
  obtain⟨_,_,_,q⟩:=hs;exact acB q
 |cont=>
  obtain⟨_,_,_,q⟩:=hs;exact acB q
end L2
variable {CX:L2.CXT}{sp:L2.Sp}
namespace L2
section
variable {p:Pos}{e:aca}{es:List aca}{t:TA}{id T:String}{r:List V->Hp->VK->Prop}
def WT (r:List V->Hp->VK->Prop)(t:TA):TE:=λσ H Q=>t σ H λvs H1=>r vs H1 Q
def j_ (hc:d5 X (.builtin id) r)(hg:Gl X x)(hm:X.mg x=none)(hv:abr x=some (.builtin id))(ha:PA X (e::es) t)(hn:x≠"__name__":=by decide)(wR:(x==("__debug__":Str))=false:=by decide)
  (he:aaC (e::es) X.env=(false,adB e X.env)::aaC es X.env:=by rfl) (pY:(acq pos (aaC es X.env)).any (·.1)=false:=by rfl):PE X (.Call (.Name x p) (e::es) [] pos) (WT r t):=by
 intro pins s σ H Q I h;refine aew (wZ I hg hm hv ?_ hn wR);exact PyProof.Rows.callWith_builtin1 (dE (ha pos pins s σ H _ I h) λus s1 ⟨vs,H1,I1,r1,q1⟩=>hc pins s1 σ H1 vs us Q I1 r1 q1) he pY
def gR (hc:d5 X (.type T) r)(hg:Gl X x)(hm:X.mg x=none)(hv:abr x=some (.type T))(ha:PA X (e::es) t)(hn:x≠"__name__":=by decide)(wR:(x==("__debug__":Str))=false:=by decide)
  (he:aaC (e::es) X.env=(false,adB e X.env)::aaC es X.env:=by rfl) (pY:(acq pos (aaC es X.env)).any (·.1)=false:=by rfl):PE X (.Call (.Name x p) (e::es) [] pos) (WT r t):=by
 intro pins s σ H Q I h;refine aew (wZ I hg hm hv ?_ hn wR);exact adE (dE (ha pos pins s σ H _ I h) λus s1 ⟨vs,H1,I1,r1,q1⟩=>hc pins s1 σ H1 vs us Q I1 r1 q1) he pY
end
end L2
namespace HT
section
variable {w:abq}{A:aba}
theorem cat_tup {vs ws:List aak}(ht:IsTup s.heap t vs.toArray)(hb:IsTup s.heap b ws.toArray)(hv:vs≠[])(h1:ws=[]->Q (.ref t) s)(h2:ws≠[]->Q (.ref s.heap.objs.size) {s with heap:=s.heap.push {cls:=.type "tuple",data:=.seq (vs++ws).toArray}})(hsz:vs.length+ws.length<=aah):aaW (aa1 prog w) A (adO .Add (.ref t) (.ref b)) Q E s:=by
 obtain⟨⟨cls,dd,data,sl⟩,ho,hc,n,hd⟩:=id ht;obtain⟨⟨cls2,Td,data2,sl2⟩,ho2,hc2,n2,hd2⟩:=id hb;subst hc hd hc2 hd2;have e:vs.toArray++ws.toArray=(vs++ws).toArray:=by simp
 by_cases hw:ws=[]
 ·exact concat_meets ⟨_,ho,rfl⟩ ⟨_,ho2,rfl⟩ noFill_tuple_add seq_tuple_add aeQ aez (aen _ _)
   (tuple_addW1 t b _ _ n n2 dd Td sl sl2 (by simpa using hv) (by simp[hw])) ⟨ho,ho2,h1 hw⟩
 ·refine concat_meets ⟨_,ho,rfl⟩ ⟨_,ho2,rfl⟩ noFill_tuple_add seq_tuple_add aeQ aez (aen _ _)
   (tuple_addW2 t b _ _ n n2 dd Td sl sl2 (by simpa using hv) (by simpa using hw) (by exact hsz)) ⟨ho,ho2,?_⟩
  rw[e];exact h2 hw
noncomputable def sIx (n d:Nat):Option Int->Nat
 |none=>d
 |some v=>if v<0 then (v+(n:Int)).toNat else min v.toNat n
def sIx_none (n d:Nat):sIx n d none=d:=rfl
theorem sIx_nat (n d k:Nat):sIx n d (some (k:Int))=min k n:=by
 show (if (k:Int)<0 then ((k:Int)+(n:Int)).toNat else min _ n)=min k n;rw[hZ (by lia),aaY]
theorem CI (v:Int)(n d:Nat):(if v<0 then max (v+(n:Int)) 0 else min v (n:Int))=((sIx n d (some v):Nat):Int):=by
 show (if v<0 then max _ 0 else min v _)=(((if v<0 then (v+(n:Int)).toNat else min _ n):Nat):Int);by_cases hv:v<0
 ·simp only[h9 hv];lia
 ·simp only[hZ hv];lia
theorem Bh (lo hi:Option Int)(n:Nat):ad6 lo hi 1 (n:Int)=(((sIx n 0 lo:Nat):Int),((sIx n n hi:Nat):Int)):=by
 have h1:=by omega
 unfold ad6;refine afj ?_ ?_
 ·cases lo with
  |none=>rfl
  |some v=>exact CI v n 0
 ·cases hi with
  |none=>rfl
  |some v=>exact CI v n n
theorem Bi (i j:Nat):ad7 (i:Int) (j:Int) 1=j-i:=by
 unfold ad7;have h1:(1:Int)>0:=by lia
 simp only[h1,if_true,Int.ediv_one];split<;>lia
theorem se {v:aak}{o:Option Int}{Q:Option Int->aaD->Prop}(p:IsPart v o)(h:Q o s):aaW (aa1 prog w) A (Builtin.Slice.slicePartIndex v) Q E s:=by
 cases p with
 |none=>exact slicePart_none h
 |int i t=>exact slicePart_int h
theorem i5 {sl:aaM}{vl vu:aak}{lo:Option Int}{Q:Int×Int×Nat->aaD->Prop}(hs:s.heap.IsSliceOf sl vl vu .none)(pl:IsPart vl lo)(pu:IsPart vu hi)(h:Q (((sIx n 0 lo:Nat):Int),1,sIx n n hi-sIx n 0 lo) s):aaW (aa1 prog w) A (Builtin.Slice.sliceApplied (.ref sl) (pure (n:Int))) Q E s:=by
 obtain⟨os,Lg,hcs,SS⟩:=id hs;refine aaa (aaa (abH Lg SS rfl (aaa (abH Lg SS rfl (aaa (abH Lg SS rfl (aae ?_)))))));refine aaa (slicePart_none ?_);refine aaa (se pl (aaa (se pu (aaa (aae ?_)))));show aaW _ _ (match ad6 lo hi 1 _ with|(lo,hi)=>pure (lo,(1:Int),ad7 lo hi 1)) _ _ s;rw[Bh lo hi n];show aaW _ _ (pure _) _ _ s;rw[Bi];exact aae h
theorem GI (xs:Array aak)(i k:Nat):((aa7 k).filterMap λ(m:Nat)=>xs[((i:Int)+(m:Int)*1).toNat]?).toArray=((xs.toList.drop i).take k).toArray:=by
 have e:(λ(m:Nat)=>xs[((i:Int)+(m:Int)*1).toNat]?)=λm=>xs[i+m]? := by
  funext m;have:((i:Int)+(m:Int)*1).toNat=i+m:=by lia
  rw[this]
 rw[e];have:=pick_run xs i k;rw[List.filterMap_map] at this;have e2:((λx=>xs[x]?)∘λx=>i+x)=λm=>xs[i+m]? := rfl;rw[e2] at this;rw[this]
theorem getItem_tuple_cut {sl:aaM}{items:Array aak}{vl vu:aak}{lo:Option Int}(ht:IsTup s.heap t items)(hs:s.heap.IsSliceOf sl vl vu .none)(pl:IsPart vl lo)(pu:IsPart vu hi)(hw:¬(sIx items.size 0 lo=0/\sIx items.size items.size hi=items.size))(h:Q (.ref s.heap.objs.size) {s with heap:=s.heap.push {cls:=.type "tuple",data:=.seq ((items.toList.drop (sIx items.size 0 lo)).take (sIx items.size items.size hi-sIx items.size 0 lo)).toArray}})(hsz:items.size<=aah):aaW (aa1 prog w) A (aft (.ref t) (.ref sl)) Q E s:=by
 have VA:=by
  show ((items.toList.drop (sIx items.size 0 lo)).take (sIx items.size items.size hi-sIx items.size 0 lo)).toArray.size<=aah;rw[aax,aaE,abb,aay];lia
 obtain⟨os,Lg,hcs,SS⟩:=id hs;have X1:s.TypeIs (.ref sl) _:=⟨os,Lg,hcs⟩;unfold aft
 try with_reducible refine abt ?_
 refine aaa (wpAny_sequenceKey ht.typeIs (by decide) ?_);refine aaa (aa6 ht.typeIs acm
  (aa0 acm ht.typeIs entry_tuple_getitem ?_ (args_tuple_getitem _ _)))
 show aaW _ _ (adY _ >>= _) _ _ s;refine aaa (tupleItemsOf_ ht ?_);refine aaa (ae3 X1 ?_);refine aaa (i5 hs pl pu ?_);have ZJ:¬((((sIx items.size 0 lo:Nat):Int)==0&&(1:Int)==1&&(sIx items.size items.size hi-sIx items.size 0 lo)==items.size)=true):=by
  intro q;rw[aau,aau] at q;have q1:=eq_of_beq q.1.1;have q2:=eq_of_beq q.2;exact hw ⟨by lia,by lia⟩
 show aaW _ _ (if (((sIx _ 0 lo:Nat):Int)==0&&(1:Int)==1&&(sIx _ _ hi-sIx _ 0 lo)==items.size)=true then _ else _) _ _ s;rw[hZ ZJ,GI]
 first
  |exact aaa (abl (aae ⟨_,rfl,aae h⟩) VA)
  |exact aaa _
  |exact aaa _
  |exact aaa _
end
end HT
namespace L2
abbrev TO:=St->Hp->(Option Int->Hp->Prop)->Prop
def PO (X:Cx)(e:Option aca)(t:TO):Prop:=
 ∀(pins:List (aaM×Obj)) (s:aaD) (σ:St) (H:Hp) (Q:Option Int->Hp->Prop),aE X pins σ H s->t σ H Q->
  aaW (aa1 X.prog X.w) X.A (evalPart e X.env) (λu s'=>∃o H',aE X pins σ H' s'/\IsPart u o/\Q o H') X.xe s
def Lw:TO:=λ_ H Q=>Q none H
def TM (t:TE):TO:=λσ H Q=>t σ H λx H1=>∃i,x=.int i/\Q (some i) H1
theorem jt:∀{us:List aak},aV (ns.map V.int) us->ae_ us ns:=by
 induction ns with
 |nil=>intro us r;cases r;exact .nil
 |cons n ns ih=>
  intro us r;cases r with
  |cons r1 r2=>
   obtain⟨t,e⟩:=r1;subst e;exact .cons n t (ih r2)
section
variable {e:aca}{lo hi:Option aca}{tl th:TO}
def Lx:PO X none Lw:=by
 intro pins s σ H Q I h;exact aae ⟨none,H,I,.none,h⟩
theorem Ly (h:PE X e te):PO X (some e) (TM te):=by
 intro pins s σ H Q I hw;refine dE (h pins s σ H _ I hw) λu s1 ⟨x,H1,I1,r1,q1⟩=>?_;obtain⟨i,rfl,q⟩:=q1;obtain⟨t,rfl⟩:=r1;exact⟨some i,H1,I1,.int i t,q⟩
def GJ (X:Cx)(r:V->Option Int->Option Int->Hp->VK->Prop):Prop:=
 ∀(pins:List (aaM×Obj)) (s:aaD) (σ:St) (H:Hp) (x:V) (v vl vu:aak) (lo hi:Option Int) (sl:aaM) (Q:VK),aE X pins σ H s->aL x v->s.heap.IsSliceOf sl vl vu .none->IsPart vl lo->IsPart vu hi->r x lo hi H Q->
  ∃T id,typeLookup (.type T) "__getitem__"=pure (some (.builtin id))/\s.TypeIs v T/\aaW (aa1 X.prog X.w) X.A (aft v (.ref sl)) (EP X pins σ Q) X.xe s
theorem GJ.or {r r':V->Option Int->Option Int->Hp->VK->Prop}(h:GJ X r)(h':GJ X r'):GJ X (λx lo hi H Q=>r x lo hi H Q\/r' x lo hi H Q):=by
 intro pins s σ H x v vl vu lo hi sl Q I rx hs pl pu q;rcases q with q|q
 ·exact h pins s σ H x v vl vu lo hi sl Q I rx hs pl pu q
 ·exact h' pins s σ H x v vl vu lo hi sl Q I rx hs pl pu q
def Zv (r:V->Option Int->Option Int->Hp->VK->Prop)(te:TE)(tl th:TO):TE:=λσ H Q=>te σ H λx H1=>tl σ H1 λl H2=>th σ H2 λu H3=>r x l u H3 Q
theorem GK {r:V->Option Int->Option Int->Hp->VK->Prop}(hr:GJ X r)(he:PE X e te)(hl:PO X lo tl)(hu:PO X hi th):PE X (.Subscript e (.Slice lo hi none p2) pos) (Zv r te tl th):=by
 intro pins s σ H Q I h;refine Subscript_ (dE (he pins s σ H _ I h) λv s1 ⟨x,H1,I1,r1,q1⟩=>?_);refine wpAny_Slice (dE (hl pins s1 σ H1 _ I1 q1) λvl s2 ⟨l,H2,I2,pl,q2⟩=>dE (hu pins s2 σ H2 _ I2 q2) λvu s3 ⟨u,H3,I3,pu,q3⟩=>?_);refine aae ?_;have I4:aE X pins σ H3 {s3 with heap:=s3.heap.push {cls:=.type "slice",data:=.fields #[vl,vu,.none]}}:=I3.kept λb ob q=>aad _ q;obtain⟨T,id,hT,ht,hg⟩:=hr pins _ σ H3 x v vl vu l u _ Q I4 r1 (Heap.IsSliceOf.new ..) pl pu q3;exact tail_any ht hT hg (by with_unfolding_all rfl)
noncomputable def xf (xs:List V)(lo hi:Option Int):List V:=(xs.drop (HT.sIx xs.length 0 lo)).take (HT.sIx xs.length xs.length hi-HT.sIx xs.length 0 lo)
theorem qc (xs:List V)(lo hi:Option Int):(xf xs lo hi).length<=xs.length:=by
 unfold xf;rw[aaE,abb];lia
def WU (K:aai):V->Option Int->Option Int->Hp->VK->Prop:=λx lo hi H Q=>∃a xs,x=.ref a/\gr K H a xs/\
 ¬(HT.sIx xs.length 0 lo=0/\HT.sIx xs.length xs.length hi=xs.length)/\∀p,H p=none->Q (.ref p) (cT H p (.tup (xf xs lo hi)))
theorem Qk:GJ X (WU X.K):=by
 intro pins s σ H x v vl vu lo hi sl Q I rx hs pl pu h;obtain⟨a,xs,rfl,hx,hw,q⟩:=h;cases rx;obtain⟨aD,r,ht,hz⟩:=I.tuple hx;have fg:aD.toArray.size=xs.length:=by exact r.length.symm
 refine⟨"tuple",_,PyProof.Rows.slot_tuple_getitem.lookup,ht.typeIs,?_⟩;refine HT.getItem_tuple_cut ht hs pl pu (by rw[fg];exact hw) ?_ (by rw[fg];exact hz);rw[fg];refine⟨.ref _,_,I.laid (λb ob q=>aad _ q) (aao _) ?_,rfl,q _ (I.hok.fresh (aao _))⟩;exact⟨aaR (qc xs lo hi) hz,_,(r.drop _).take _,IsTup.new _ _,_,aam _ rfl⟩
def TN (K:aai):R2:=λx y H Q=>∃a b xs ys,x=.ref a/\y=.ref b/\gr K H a xs/\gr K H b ys/\xs≠[]/\xs.length+ys.length<=aah/\
 (ys=[]->Q (.ref a) H)/\(ys≠[]->∀p,H p=none->Q (.ref p) (cT H p (.tup (xs++ys))))
theorem aV.nil_iff {us:List aak}(r:aV xs us):us=[]↔xs=[]:=by
 cases r with
 |nil=>simp
 |cons _ _=>simp
theorem Lz:j6 X (adO .Add) (TN X.K):=by
 intro pins s σ H x y v u Q I rx ry h;obtain⟨a,b,xs,ys,rfl,rfl,ha,hb,hx,hz,q1,q2⟩:=h;cases rx;cases ry;obtain⟨aD,r1,p1,_⟩:=I.tuple ha;obtain⟨its2,r2,p2,_⟩:=I.tuple hb;refine HT.cat_tup p1 p2 (λz=>hx (r1.nil_iff.mp z)) (λz=>⟨.ref a,H,I,rfl,q1 (r2.nil_iff.mp z)⟩) (λz=>?_) (by rw[←r1.length,←r2.length];exact hz);refine⟨.ref _,_,I.laid (λb ob q=>aad _ q) (aao _) ?_,rfl,q2 (λw=>z (r2.nil_iff.mpr w)) _ (I.hok.fresh (aao _))⟩;exact⟨by rw[aaj];exact hz,_,r1.append r2,IsTup.new _ _,_,aam _ rfl⟩
end
end L2
namespace L2
noncomputable def EN (n:Nat)(i:Int):Option Nat:=if 0<=i then (if i<n then some i.toNat else none) else if -(n:Int)<=i then some (i+n).toNat else none
noncomputable def mP {α:Type}(xs:List α)(i:Int):Option α:=(EN xs.length i).bind λj=>xs[j]?
theorem CJ {i:Int}(h:EN n i=some j):afY i n=some j/\j<n/\ -(n:Int)<=i/\i<n:=by
 unfold EN at h;by_cases h0:0<=i
 ·rw[h9 h0] at h;by_cases h1:i<n
  ·rw[h9 h1] at h;have e:=aaX h;exact⟨by rw[seqIndex_of h0 h1,e],by lia,by lia,h1⟩
  ·rw[hZ h1] at h;cases h
 ·rw[hZ h0] at h;by_cases h1 : -(n:Int)<=i
  ·rw[h9 h1] at h;have e:=aaX h;exact⟨by rw[seqIndex_neg (by lia) h1,e],by lia,h1,by lia⟩
  ·rw[hZ h1] at h;cases h
theorem xg {α:Type}{xs:List α}{i:Int}{v:α}(h:mP xs i=some v):∃j,afY i xs.length=some j/\xs[j]? = some v/\j<xs.length/\ -(xs.length:Int)<=i/\i<xs.length:=by
 unfold mP at h;cases e:EN _ i with
 |none=>rw[e] at h;cases h
 |some j=>
  rw[e] at h;obtain⟨h1,h2,h3,h4⟩:=CJ e;exact⟨j,h1,h,h2,h3,h4⟩
def CK (b:aca):Prop:=∀o i,subscripted b false o i=operate [o,i] (aft o i)
def K6 (X:Cx)(r:R2):Prop:=
 ∀(value slice:aca) (pins:List (aaM×Obj)) (s:aaD) (σ:St) (H:Hp) (x y:V) (v u:aak) (Q:VK),aE X pins σ H s->aL x v->aL y u->r x y H Q->
  subscripted slice false v u=operate [v,u] (aft v u)->aaW (aa1 X.prog X.w) X.A (subscriptTail value slice v u) (EP X pins σ Q) X.xe s
def K7 (X:Cx)(id:String)(r:V->List V->Hp->VK->Prop):Prop:=
 ∀(pins:List (aaM×Obj)) (s:aaD) (σ:St) (H:Hp) (x:V) (xs:List V) (v:aak) (us:List aak) (Q:VK),aE X pins σ H s->aL x v->aV xs us->r x xs H Q->
  aaW (aa1 X.prog X.w) X.A (call (.builtin id) (v::us)) (EP X pins σ Q) X.xe s
section
variable {a b:aca}{ta tb:TE}
theorem K6.or {r':R2}(h:K6 X r)(h':K6 X r'):K6 X (λx y H Q=>r x y H Q\/r' x y H Q):=by
 intro value slice pins s σ H x y v u Q I rx ry q hs;rcases q with q|q
 ·exact h _ _ pins s σ H x y v u Q I rx ry q hs
 ·exact h' _ _ pins s σ H x y v u Q I rx ry q hs
theorem K7.or {id:String}{r r':V->List V->Hp->VK->Prop}(h:K7 X id r)(h':K7 X id r'):K7 X id (λx xs H Q=>r x xs H Q\/r' x xs H Q):=by
 intro pins s σ H x xs v us Q I rx rs q;rcases q with q|q
 ·exact h pins s σ H x xs v us Q I rx rs q
 ·exact h' pins s σ H x xs v us Q I rx rs q
def TQ (hr:K6 X r)(ha:PE X a ta)(hb:PE X b tb)(hs:CK b):PE X (.Subscript a b pos) (Tv r ta tb):=by
 intro pins s σ H Q I h;exact Subscript_ (Qb ha hb I h λv u s2 x y H2 I2 rx ry q=>hr a b pins s2 σ H2 x y v u Q I2 rx ry q (hs _ _))
def TR (K:aai):R2:=λx y H Q=>∃p xs i v,x=.ref p/\y=.int i/\fX K H p xs/\mP xs i=some v/\Q v H
def TU (K:aai):R2:=λx y H Q=>∃p xs i v,x=.ref p/\y=.int i/\gr K H p xs/\mP xs i=some v/\Q v H
def TV:R2:=λx y H Q=>∃z i c,x=.str z/\y=.int i/\z.length<=aah/\mP z.cps.toList i=some c/\Q (.str ⟨#[c]⟩) H
theorem LA:K6 X (TR X.K):=by
 intro value slice pins s σ H x y v u Q I rx ry h hs;obtain⟨p,xs,i,z,rfl,rfl,hq,he,q⟩:=h;cases rx;obtain⟨t,rfl⟩:=ry;obtain⟨aD,r,pl,hz⟩:=I.list hq;obtain⟨j,h1,h2,h3,h4,h5⟩:=xg he;obtain⟨w,ew,A7⟩:=r.get h2;have hl:=r.length;have hn:=xc;have fin:EP X pins σ Q w s:=⟨z,H,I,A7,q⟩;by_cases h0:0<=i
 ·have hj:=by
   rw[seqIndex_of h0 h5] at h1;exact aaX h1
  exact item_listR pl.isList h0 (by lia) (by rw[hj];simpa using ew) fin hs
 ·have hj:(i+(aD.toArray.size:Int)).toNat=j:=by
   rw[seqIndex_neg (by lia) h4] at h1;rw[aax,←hl];exact aaX h1
  exact subscriptTail_builtinR pl.isList.typeIs slot_list_getitem.lookup
   (wpAny_getItem_list_neg pl.isList (by lia) (by rw[aax]<;>lia) (by lia) (by rw[hj];simpa using ew) ⟨rfl,fin⟩) hs
theorem Ql:K6 X (TU X.K):=by
 intro value slice pins s σ H x y v u Q I rx ry h hs;obtain⟨p,xs,i,z,rfl,rfl,hq,he,q⟩:=h;cases rx;obtain⟨t,rfl⟩:=ry;obtain⟨aD,r,pl,hz⟩:=I.tuple hq;obtain⟨j,h1,h2,h3,h4,h5⟩:=xg he;obtain⟨w,ew,A7⟩:=r.get h2;have hl:=r.length;have hn:=xc;have fin:EP X pins σ Q w s:=⟨z,H,I,A7,q⟩;exact subscriptTail_builtinR pl.typeIs slot_tuple_getitem.lookup
  (getItem_tuple pl (by lia) (by lia) (by rw[aax,←hl];exact h1) (by simpa using ew) ⟨rfl,fin⟩) hs
theorem Qm:K6 X TV:=by
 intro value slice pins s σ H x y v u Q I rx ry h hs;obtain⟨z,i,c,rfl,rfl,hz,he,q⟩:=h;obtain⟨t,rfl⟩:=rx;obtain⟨t',rfl⟩:=ry;obtain⟨j,h1,h2,h3,h4,h5⟩:=xg he;have hl:z.cps.toList.length=z.length:=by simp[Str.length]
 rw[hl] at h1 h4 h5;have hn:=xc;exact tail_any (typeIs_str s z t) slot_str_getitem.lookup (getItem_str (by
  have e1:decide (i < -(2 ^ 63:Int))=false:=hV (by lia);have e2:decide (i≥2 ^ 63)=false:=hV (by lia);rw[e1,e2,Bool.or_false]) (by rw[h1];simpa using h2) ⟨.str _,H,I.tok _,⟨_,rfl⟩,q⟩) hs
def Yx (K:aai):R2:=λx y H Q=>TR K x y H Q\/TU K x y H Q\/TV x y H Q
def eM:K6 X (Yx X.K):=LA.or (Ql.or Qm)
def Bj (aD:List aak)(n j:Nat)(u:aak):aeS (·.setIfInBounds j u) {cls:=.type "list",data:=.seq aD.toArray n}={cls:=.type "list",data:=.seq (aD.set j u).toArray n}:=by
 simp[aeS]
theorem aE.lst (I:aE X pins σ H s)(h:H p=some (.lst xs)) :
  ∃(aD:List aak) (n:Nat),aV xs aD/\s.heap.get? p=some {cls:=.type "list",data:=.seq aD.toArray n}/\xs.length<=aah:=by
 obtain⟨z,aD,n,r,e⟩:=I.hok p _ h;exact⟨aD,n,r,e,z⟩
def aE.lstUpd {ys:List V}{rA:List aak}{n':Nat}{f:Obj->Obj}(I:aE X pins σ H s)(h:H p=some (.lst xs))(ho:s.heap.get? p=some {cls:=.type "list",data:=.seq aD.toArray n})(hf:f {cls:=.type "list",data:=.seq aD.toArray n}={cls:=.type "list",data:=.seq rA.toArray n'})(r:aV ys rA)(hz:ys.length<=aah)(t:Nat) :
  aE X pins σ (cT H p (.lst ys)) {s with heap:=s.heap.update p f,toks:=t}:=by
 have e:(s.heap.update p f).get? p=some {cls:=.type "list",data:=.seq rA.toArray n'}:=by
  rw[adF f ho (by rw[hf]<;>rfl),hf]
 refine I.write (by rw[h];trivial) (.inl rfl) (λb u hb q=>(Heap.get?_update_other _ _ (Ne.symm hb)).trans q) ⟨_,e⟩ ?_;exact⟨hz,rA,n',r,e⟩
def TX:V->V->V->Hp->(Hp->Prop)->Prop:=λo i v H Q=>∃p xs k j,o=.ref p/\i=.int k/\H p=some (.lst xs)/\EN xs.length k=some j/\Q (cT H p (.lst (xs.set j v)))
theorem GL:Tq X TX:=by
 intro pins s σ H o i v ov iv u Q I ro ri rv h;obtain⟨p,xs,k,j,rfl,rfl,hp,hj,q⟩:=h;cases ro;obtain⟨t,rfl⟩:=ri;obtain⟨aD,n,r,ho,hz⟩:=I.lst hp;obtain⟨h1,h2,h3,h4⟩:=CJ hj;have hl:=r.length;have hn:=xc;have I'  :=
  I.lstUpd hp ho (Bj aD n j u) (r.set rv j) (by rw[abQ];exact hz) s.toks
 by_cases h0:0<=k
 ·have hk:=by
   rw[seqIndex_of h0 h4] at h1;exact aaX h1
  exact PySem.W.ki_setAt ho h0 (by lia) (by rw[aax,←hl];exact h4) (by rw[hk];exact⟨_,I',q⟩)
 ·have hk:(k+(aD.toArray.size:Int)).toNat=j:=by
   rw[seqIndex_neg (by lia) h3] at h1;rw[aax,←hl];exact aaX h1
  exact PySem.W.ki_setBack ho (by lia) (by rw[aax,←hl];exact h3) (by lia) (by rw[hk];exact⟨_,I',q⟩)
theorem xh (lo hi:Option Int)(n:Nat):(aeT lo hi none n).1=((HT.sIx n 0 lo:Nat):Int)/\(aeT lo hi none n).2.1=((HT.sIx n n hi:Nat):Int)/\(aeT lo hi none n).2.2=1:=by
 refine⟨?_,?_,rfl⟩
 ·cases lo with
  |none=>simp[aeT,HT.sIx]
  |some i=>
   simp only[aeT,HT.sIx,afa,show (1:Int)>0 by decide,if_true];by_cases h:i<0
   ·simp only[h,if_true]<;>lia
   ·simp only[h,if_false]<;>lia
 ·cases hi with
  |none=>simp[aeT,HT.sIx]
  |some i=>
   simp only[aeT,HT.sIx,afa,show (1:Int)>0 by decide,if_true];by_cases h:i<0
   ·simp only[h,if_true]<;>lia
   ·simp only[h,if_false]<;>lia
theorem vg (aD:List aak)(lo hi:Option Int):slicePick aD.toArray lo hi none=((aD.drop (HT.sIx aD.length 0 lo)).take (HT.sIx aD.length aD.length hi-HT.sIx aD.length 0 lo)).toArray:=by
 obtain⟨h1,h2,h3⟩:=xh lo hi _;unfold slicePick;rw[h1,h2,h3];simp only[sliceRange_one,pick_run]<;>rfl
def LB (K:aai):V->Option Int->Option Int->Hp->VK->Prop:=λx lo hi H Q=>∃a xs,x=.ref a/\fX K H a xs/\∀p,H p=none->Q (.ref p) (cT H p (.lst (xf xs lo hi)))
theorem LC:GJ X (LB X.K):=by
 intro pins s σ H x v vl vu lo hi sl Q I rx hs pl pu h;obtain⟨a,xs,rfl,hx,q⟩:=h;cases rx;obtain⟨aD,r,ht,hz⟩:=I.list hx;have fg:=r.length;refine⟨"list",_,slot_list_getitem.lookup,ht.isList.typeIs,?_⟩;refine wpAny_getItem_list_slice ht.isList hs pl pu .none (by simp) ?_ (by rw[aax]<;>lia);rw[vg,←fg];refine⟨.ref _,_,I.laid (λb ob q=>aad _ q) (aao _) ?_,rfl,q _ (I.hok.fresh (aao _))⟩;exact⟨aaR (qc xs lo hi) hz,_,0,(r.drop _).take _,aam _ rfl⟩
theorem aT:d5 X (.type "tuple") (λxs H Q=>∃p ys,xs=[.ref p]/\((fX X.K H p ys/\∀l,H l=none->Q (.ref l) (cT H l (.tup ys)))\/(gr X.K H p ys/\Q (.ref p) H))):=by
 intro pins s σ H xs us Q I r h;obtain⟨p,ys,rfl,h⟩:=h;obtain⟨u,rfl,rx⟩:=gX r;cases rx;rcases h with⟨hq,q⟩|⟨hq,q⟩
 ·obtain⟨aD,r',pl,hz⟩:=I.list hq;have fg:=r'.length;refine call_tuple_list pl.isList (λh' kp=>?_) (by simp only[aax]<;>lia);have I1:=I.kept (t':=s.toks) kp;have I2  :=
   I1.laid (t':=s.toks) (λb o e=>aad _ e) (aao _) (show cP _ X.w _ _ _ (.tup ys) from ⟨hz,aD,r',IsTup.new _ _,_,aam _ rfl⟩)
  exact⟨.ref _,_,I2,rfl,q _ (I1.hok.fresh (aao _))⟩
 ·obtain⟨aD,r',pl,hz⟩:=I.tuple hq;exact call_tuple_same pl ⟨.ref p,H,I,rfl,q⟩
def WV (K:aai)(T:String)(x:V)(H:Hp):Prop:=match x with
 | .str _=>T="str"
 | .int _=>T="int"
 | .ref p=>(T="list"/\∃xs,fX K H p xs)\/(T="tuple"/\((∃o,K.lookup p=some o/\o.cls=.type "tuple"/\o.dict=none)\/∃xs,H p=some (.tup xs))) \/
   (T="dict"/\((∃aX,H p=some (.dK aX))\/∃aX,H p=some (.dT aX)))\/(T="set"/\∃S n,H p=some (.set S n))
 |_=>False
theorem Qn {T:String}{x:V}{v:aak}(I:aE X pins σ H s)(r:aL x v)(ty:WV X.K T x H) :
  s.TypeIs v T/\∀a,v=.ref a->∃ob,s.heap.get? a=some ob/\ob.dict=none:=by
 cases x with
 |str z=>
  obtain⟨t,rfl⟩:=r;cases (show T="str" from ty);exact⟨typeIs_str s z t,λ_ e=>nomatch e⟩
 |int i=>
  obtain⟨t,rfl⟩:=r;cases (show T="int" from ty);exact⟨typeIs_int s i t,λ_ e=>nomatch e⟩
 |ref p=>
  cases r;rcases ty with⟨rfl,xs,hq⟩|⟨rfl,⟨o,hk,hc,hd⟩|⟨xs,hq⟩⟩|⟨rfl,hk⟩|⟨rfl,S,n,hk⟩
  ·obtain⟨aD,_,pl,_⟩:=I.list hq;refine⟨pl.isList.typeIs,λa e=>?_⟩;cases e;obtain⟨o,n,e,c,hd,_⟩:=pl;exact⟨o,e,hd⟩
  ·refine⟨⟨o,I.kIn p o hk,hc⟩,λa e=>?_⟩;cases e;exact⟨o,I.kIn _ o hk,hd⟩
  ·obtain⟨_,aD,_,⟨o,e,c,_⟩,n2,e2⟩:=I.hok p _ hq;refine⟨⟨o,e,c⟩,λa e'=>?_⟩;cases e';exact⟨_,e2,rfl⟩
  ·have z:∃o,s.heap.get? p=some o/\o.ExactDict:=by
    rcases hk with⟨aX,hk⟩|⟨aX,hk⟩
    ·obtain⟨_,_,_,_,o,_,_,e,ex,_⟩:=I.hok p _ hk;exact⟨o,e,ex⟩
    ·obtain⟨_,_,_,_,o,_,_,e,ex,_⟩:=I.hok p _ hk;exact⟨o,e,ex⟩
   obtain⟨o,e,ex⟩:=z;refine⟨⟨o,e,ex.1⟩,λa e2=>?_⟩;cases e2;exact⟨o,e,ex.2.1⟩
  ·obtain⟨o,_,_,_,e,ex,_⟩:=I.hok p _ hk;refine⟨⟨o,e,ex.1⟩,λa e2=>?_⟩;cases e2;exact⟨o,e,ex.2.1⟩
 |_=>exact acB ty
def Yy (K:aai)(T:String)(r:V->List V->Hp->VK->Prop)(to:TE)(t:TA):TE:=λσ H Q=>to σ H λx H1=>WV K T x H1/\t σ H1 λxs H2=>r x xs H2 Q
variable {o e:aca}{es:List aca}{to:TE}{t:TA}{name:Str}{bW cpos:Pos}{T id:String}{r:V->List V->Hp->VK->Prop}
theorem GN (pa:PlainAttrs T)(slot:Slot T name id)(X2:typeOf (.builtin id)=pure (.type "method_descriptor"))(hm:K7 X id r)(ho:PE X o to)(ha:PA X (e::es) t)
  (u3:adP o name X.env (adB o X.env)=adB o X.env:=by rfl)
  (Cy:((acq cpos (aaC (e::es) X.env)).all (λx=> !x.1)&&(backToKw cpos (aeU [] X.env)).all (λx=>x.1.isSome)
   && decide ((e::es).length+([]:List aex).length+(if ([]:List aex).isEmpty then 0 else 1)<30))=true:=by rfl)
  (u4:(bW.endLine==cpos.line)=true:=by rfl) (hs:aaC (e::es) X.env=(false,adB e X.env)::aaC es X.env:=by rfl) (mL:(acq cpos (aaC es X.env)).any (·.1)=false:=by rfl) :
  PE X (.Call (.Attribute o name bW) (e::es) [] cpos) (Yy X.K T r to t):=by
 intro pins s σ H Q I h;refine wpAny_Call_method_late u3 Cy u4 rfl (dE (ho pins s σ H _ I h) λv s1 ⟨x,H1,I1,r1,ty,q1⟩=>?_);obtain⟨h1,h2⟩:=Qn I1 r1 ty;refine⟨T,id,pa,slot,X2,h1,h2,?_⟩;have hA:=ha cpos pins s1 σ H1 _ I1 q1;rw[hs] at hA ⊢;refine ach (by show (false||(acq cpos _).any _)=false;rw[mL]<;>rfl) (ad1 ?_);exact dE hA λus s2 ⟨vs,H2,I2,r2,q2⟩=>hm pins s2 σ H2 x vs v us Q I2 r1 r2 q2
end
end L2
namespace L2
def WW (X:Cx)(id:String)(r:V->List V->Hp->VK->Prop):Prop:=
 ∀(pins:List (aaM×Obj)) (s:aaD) (σ:St) (H:Hp) (x:V) (xs:List V) (v:aak) (us:List aak) (Q:VK),aE X pins σ H s->aL x v->aV xs us->r x xs H Q->
  aaW (aa1 X.prog X.w) X.A (call (.builtin id) (v::us)) (EP X pins σ Q) X.xe s
def aV.one:∀{x:V} {us:List aak},aV [x] us->∃u,us=[u]/\aL x u
 |_,_,.cons r .nil=>⟨_,rfl,r⟩
theorem aV.eraseIdx:∀{xs:List V} {us:List aak} (i:Nat),aV xs us->aV (xs.eraseIdx i) (us.eraseIdx i)
 |_,_,_,.nil=>.nil
 |_,_,0,.cons _ t=>t
 |_,_,i+1,.cons r t=>.cons r (aV.eraseIdx i t)
theorem vQ {α:Type}:∀(l:List α) (i:Nat),(l.eraseIdx i).length<=l.length
 | [],_=>aao _
 |_::_,0=>Nat.le_succ _
 |_::r,i+1=>Nat.succ_le_succ (vQ r i)
section
variable {l:aaM}{ys zs:List V}
def aE.lset {t':Nat}{rA:List aak}{f:Array aak->Array aak}(I:aE X pins σ H s)(hH:H l=some (.lst xs))(e:s.heap.get? l=some {cls:=.type "list",data:=.seq aD.toArray n})(hf:f aD.toArray=rA.toArray)(hv:aV ys rA)(hz:ys.length<=aah) :
  aE X pins σ (cT H l (.lst ys)) {s with heap:=s.heap.update l (aeS f),toks:=t'}:=by
 have q:=PySem.IsL.update e f;rw[hf] at q;refine I.write (by rw[hH];exact trivial) (.inl rfl) (λb' u hb hu=>(Heap.get?_update_other _ _ (Ne.symm hb)).trans hu) ⟨_,q⟩ ?_;exact⟨hz,rA,_,hv,q⟩
def aE.lnew {t':Nat}(I:aE X pins σ H s)(hv:aV ys aD)(hz:ys.length<=aah) :
  aE X pins σ (cT H s.heap.objs.size (.lst ys)) {s with heap:=s.heap.push {cls:=.type "list",data:=.seq aD.toArray},toks:=t'}:=
 I.laid (λ_ _ q=>aad _ q) (aao _) ⟨hz,aD,0,hv,aam _ rfl⟩
def aE.fresh (I:aE X pins σ H s):H s.heap.objs.size=none:=I.hok.fresh (aao _)
theorem aE.lstM (I:aE X pins σ H s)(hH:H l=some (.lst xs)):xs.length<=aah/\∃(aD:List aak) (n:Nat),aV xs aD/\xs.length=aD.length/\s.heap.get? l=some {cls:=.type "list",data:=.seq aD.toArray n}:=by
 obtain⟨z,aD,n,r,e⟩:=I.hok l _ hH;exact⟨z,aD,n,r,r.length,e⟩
theorem su (h:n<=aah):aeo n=false:=by
 exact hV (by lia)
end
def CL:V->List V->Hp->VK->Prop:=λx vs H Q=>∃l xs y,x=.ref l/\vs=[y]/\H l=some (.lst xs)/\xs.length<aah/\Q .non (cT H l (.lst (xs++[y])))
theorem vR:WW X "list.append" CL:=by
 intro pins s σ H x vs v us Q I rx rv h;obtain⟨l,xs,y,rfl,rfl,hH,hz,q⟩:=h;cases rx;obtain⟨u,rfl,ru⟩:=rv.one;obtain⟨z,aD,n,r,hl,e⟩:=I.lstM hH;refine aeV F.slot_list_append ⟨_,e,rfl⟩ F.entry_list_append (F.args_list_append_2 _ _) (PySem.list_append l _ n u (by rw[aax];lia)) ⟨e,?_⟩;refine⟨.non,_,I.lset hH e (by simp) (r.append (.cons ru .nil)) ?_,rfl,q⟩;rw[aaj,adG];lia
def GO:V->List V->Hp->VK->Prop:=λx vs H Q=>∃l xs i k y,x=.ref l/\vs=[.int i]/\H l=some (.lst xs)/\ -(2 ^ 63)<=i/\i<2 ^ 63/\afY i xs.length=some k/\xs[k]? = some y/\Q y (cT H l (.lst (xs.eraseIdx k)))
theorem GP:WW X "list.pop" GO:=by
 intro pins s σ H x vs v us Q I rx rv h;obtain⟨l,xs,i,k,y,rfl,rfl,hH,h1,h2,hk,hy,q⟩:=h;cases rx;obtain⟨u,rfl,ru⟩:=rv.one;obtain⟨t,rfl⟩:=ru;obtain⟨z,aD,n,r,hl,e⟩:=I.lstM hH;obtain⟨w,hw,A7⟩:=r.get hy;refine aeV F.slot_list_pop ⟨_,e,rfl⟩ F.entry_list_pop (F.args_list_pop_2 _ _)
  (MeetsSeq.list_pop_at l _ n i t k w (fitsIndex_both h1 h2) (by rw[aax,←hl];exact hk) (by rw[←aa5];exact hw) (by rw[aax];lia)) ⟨e,?_⟩
 refine⟨y,_,I.lset hH e ?_ (r.eraseIdx k) ?_,A7,q⟩
 ·rw[List.eraseIdxIfInBounds_toArray]
 ·have:=vQ xs k;lia
section
variable {w:abq}{A:aba}
set_option maxRecDepth 100000 in
end
end L2
namespace Att
open PySem.W PySem.Calls
theorem qR {P:Params}:∀(ns:List Int) (vs:List aak),WellAll P h vs (ns.map WData.int)->ae_ vs ns:=by
 intro ns
 induction ns with
 |nil=>
  intro vs w;cases w;exact .nil
 |cons n ns ih=>
  intro vs w;cases w with
  |cons a b=>
   cases a;exact .cons _ _ (ih _ b)
theorem EO {l:OpenLaw}(hn:l.most=some n){P:Params}{args:List WData}{Sv:List aak}(NC:l.row.toRowW.claim.pre args=true)(X3:WellAll P h Sv args) :
  ∃a vs ns,Sv=[Value.ref a]/\args=[WData.list (ns.map WData.int)]/\h.get? a=some {cls:=.type "list",data:=.seq vs.toArray}/\ae_ vs ns/\ns.length<=n:=by
 have ZK:=(pre_splitW NC).1;have hc:l.pre.holds [] _=true:=(pre_splitW NC).2;obtain⟨d,r,rfl,h1,h2⟩:=hasAllW_cons ZK;obtain rfl:=hasAllW_nil h2;obtain⟨xs,rfl,h3⟩:=hasW_list h1;obtain⟨ns,rfl⟩:=items_int h3;have fg:=by
  have h4:=by
   have h4:=(holds_andW hc).1;rw[hn] at h4;exact h4
  have h5:=condW_of h4 (w_not (w_lt w_lit (w_len_list (w_arg rfl))))
  first
   | (exact absurd h5 (by decide))
   | (simp at h5;omega)
 cases X3 with
 |cons w1 w2=>
  cases w2;cases w1 with
  |list ho hall=>exact⟨_,_,ns,rfl,rfl,ho,qR ns _ hall,fg⟩
def ER (l:OpenLaw)(args:List WData):l.row.toRowW.claim.post args (.bool true) args=true:=
 postW_of
  (show WShape.has [] _ _=true by first|rfl|decide|simp[WShape.arms])
  (show (WTm.eq .res _).value [] _=some _ from w_eq_bool (w_res rfl) w_lit) rfl
theorem attach_call {l:OpenLaw}{q:acC}{d:DefRec}(hn:l.most=some n)(VB:d.params.defaults=[])(call:∀(w:abq) (s₀ s₁:aaD) (mg mb:Str->Option aak) (fa:aaM) (o:Obj) (pm cd kN:aak) (a:aaM) (vs:List aak) (ns:List Int),
   Ground q loose [] XP w s₀ mg mb s₁.heap->YP w s₁.heap->
   s₁.heap.get? fa=some o->o.data=.func (docDef d.name d.params d.body d.scope pm cd kN)->s₁.heap.CodeRec cd d.name->mg d.name=some (.ref fa)->
   s₁.heap.get? a=some {cls:=.type "list",data:=.seq vs.toArray}->ae_ vs ns->ns.length<=n->s₁.gens=#[]->
   codeAny (aa1 l.prog w) callerA (.call (.ref fa) ⟨[.ref a],[]⟩) (λr s'=>r=.ok (.ret (.bool true))/\OldK s₁.heap s'.heap/\s'.os=s₁.os/\afN s'.gens) s₁) :
  WalkO q loose XP YP l.row.toRowW d [] (λf vs=>PySem.call f vs):=by
 intro w s₀ s₁ mg mb G Y fa o pm cd kN dV kV ho hd oJ hD VC hg args Sv as NC ZL hrd X3 hlo;obtain rfl:dV=.none:=Dflts.none hD VB;obtain rfl:kV=.none:=Dflts.noKw hD;obtain⟨a,vs,ns,rfl,rfl,Sw,KR,fg⟩:=EO hn NC X3;refine enter_call (ael (call w s₀ s₁ mg mb fa o pm cd kN a vs ns G Y ho (fd_plain hd) oJ VC Sw KR fg hg) λr s' hq=>?_);obtain⟨rfl,h2,h3,h4⟩:=hq;exact⟨.inl ⟨.bool true,.bool true,[],rfl,λ_=>rfl,.bool true,ER l _,λ_=>⟨List.Pairwise.nil,λ_ hm=>(nomatch hm)⟩⟩,h2,h3,h4⟩
end Att
namespace L2
theorem oR:∀{vs:List aak} {ns:List Int},ae_ vs ns->aV (ns.map V.int) vs
 |_,_,.nil=>.nil
 |_,_,.cons n t h=>.cons ⟨t,rfl⟩ (oR h)
def LD (H:Hp):Prop:=∀b,H b=none\/∃o xs,H b=some (.frz o (.lst xs))
theorem GQ {w:abq}{mb:Str->Option aak}{fa:aaM}{s₁:aaD}{vs:List aak}(KX:K.In s₁.heap)(Y0:s₁.heap.Ns abc mg)(hb:s₁.heap.Ns builtinsNs mb)(ZM:∀x:Str,x≠"__name__"->mb x=abr x)(X4:s₁.heap.NoLimit)(hg:s₁.gens=#[])(ha:s₁.heap.get? a=some {cls:=.type "list",data:=.seq vs.toArray})(hi:ae_ vs ns)(hl:ns.length<=aah)(hr:dS k callerA)(F:∀base:acP,K.In base->base.Ns abc mg->iP P w K mg base CX k fa fd [x] sp)(VD:∀(s:aaD) (u:aak),BindsTo s fd ⟨[u],[]⟩ [(x,u)])(Pu:∀H:Hp,LD H->fX K H a (ns.map V.int)->sp [.ref a] H (λv _=>v=.bl true) λ_ _ _=>False)(X5:∀H e s',CX [] H s₁ (λ_ _ _=>False) e s'->False) :
  codeAny (aa1 P w) callerA (.call (.ref fa) ⟨[.ref a],[]⟩) (λr s'=>r=.ok (.ret (.bool true))/\OldK s₁.heap s'.heap/\s'.os=s₁.os/\afN s'.gens) s₁:=by
 have rv:=oR hi;have X6:=hi.length;have VE:∀H ,LD H->fX K H a (ns.map V.int)->jn P w H s₁.heap->(∀b,H b≠none->b=a)->(H a≠none->K.lookup a=none)->
   codeAny (aa1 P w) callerA (.call (.ref fa) ⟨[.ref a],[]⟩) (λr s'=>r=.ok (.ret (.bool true))/\OldK s₁.heap s'.heap/\s'.os=s₁.os/\afN s'.gens) s₁:=by
  intro H hO hS hok hA hK;have EB:∀{b:aaM} {o:Obj},s₁.heap.get? b=some o->H b=none->(EF _ H).get? b=some o:=λe n=>Gs e n;have Vy:∀{b:aaM} {o:Obj} {es:Array _} {ep:Nat},s₁.heap.get? b=some o->o.data=.dict es ep->H b=none:=λ{b o es ep} e d=>by
   cases q:H b with
   |none=>rfl
   |some u=>
    have e' :=hA b (by rw[q];simp);subst e';rw[ha] at e;cases e;have d' :=d;cases d'
  have Ws:∀{b:aaM} {m:Str->Option _},s₁.heap.Ns b m->(EF _ H).Ns b m:=λ{b m} ⟨o,es,ep,e,d,r⟩=>⟨o,es,ep,EB e (Vy e d),d,r⟩;have Y1:=λb o e=>EB (KX b o e) (by
   cases q:H b with
   |none=>rfl
   |some u=>
    have e' :=hA b (by rw[q];simp);subst e';rw[hK (by rw[q];simp)] at e;cases e)
  have hM:Mod K mg _:=⟨Y1,Ws Y0,⟨mb,Ws hb,ZM⟩,let ⟨mc,h1,h2⟩:=X4;⟨mc,Ws h1,h2⟩⟩;have e0:GH P w K mg _ callerA [] s₁ H:=⟨rfl,hM,λb o e=>Lh e,Nat.le_of_eq (EG _ _),trivial,λb hb=>absurd (show b∈([]:List aaM) from hb) (by simp),hok,.of_eq hg⟩;refine ael ((F _ Y1 (Ws Y0)).run _ [] s₁ H _ _ [.ref a] _ _ hr e0 (VD s₁ _) (.cons rfl .nil) (Pu H hO hS)) λr s' h=>?_;cases r with
  |error e=>exact (X5 H e s' h).elim
  |ok fl=>
   cases fl with
   |next=>exact acB h
   |brk=>exact acB h
   |cont=>exact acB h
   |ret u=>
    obtain⟨v,H',os,bare,un,hok',r',q⟩:=h;have q' :=q;subst q';obtain rfl:u=Value.bool true:=r';refine⟨rfl,OldK.of_keep λb o e=>?_,os,bare⟩;cases q:H b with
    |none=>exact un.keep b o e q (by intro z;exact absurd (show b∈([]:List aaM) from z) (by simp)) (by simp)
    |some u=>
     rcases hO b with z|⟨ob,xs,z⟩
     ·rw[q] at z;cases z
     ·have z2:=un.frzs b ob _ z;obtain⟨e1,_⟩:=hok b _ z;obtain⟨e2,_⟩:=hok' b _ z2;rw[e] at e1;cases e1;exact e2
 cases hk:K.lookup a with
 |some o=>
  have e:=KX a o hk;rw[ha] at e;cases e;refine VE _ (λ_=>.inl rfl) (.inr ⟨_,vs.toArray,_,hk,rfl,rfl,rfl,by rw[aax,X6];exact hl,by simpa using rv⟩) (λb u z=>by have z' :=z;cases z') (λb z=>absurd rfl z) λz=>absurd rfl z
 |none=>
  refine VE (λb=>if b=a then some _ else none) (λb=>?_) (.inl (.inr ⟨{cls:=.type "list",data:=.seq vs.toArray},h9 rfl⟩)) (λb u z=>?_) (λb z=>?_) λ_=>hk
  ·by_cases hb:b=a
   ·exact .inr ⟨_,_,h9 hb⟩
   ·exact .inl (hZ hb)
  ·by_cases hb:b=a
   ·have z':=(h9 hb).symm.trans z;cases z';subst hb;exact⟨ha,by rw[aab];exact hl,vs,_,rv,ha⟩
   ·have z':=(hZ hb).symm.trans z;cases z'
  ·by_cases hb:b=a
   ·exact hb
   ·exact absurd (hZ hb) z
end L2
namespace L2
theorem walk_of {l:PySem.W.OpenLaw}{q:acC}{d:DefRec}{K:Params->aai}{CX:abq->CXT}{sp:abq->Sp}(hn:l.most=some n)(S9:n<=aah)(VB:d.params.defaults=[])(hr:dS k callerA)(hY:∀(w:abq) (h:acP),YP w h->(K w.params).In h)(F:∀(w:abq) (mg:Str->Option aak) (fa:aaM) (h:acP),(K w.params).In h->h.Ns abc mg->mg d.name=some (.ref fa)->
   ∃fd:adA,(∀(s:aaD) (u:aak),BindsTo s fd ⟨[u],[]⟩ [(x,u)])/\
    ∀base:acP,(K w.params).In base->base.Ns abc mg->iP l.prog w (K w.params) mg base (CX w) k fa fd [x] (sp w))(Pu:∀(w:abq) (H:Hp) (a:aaM) (ns:List Int),ns.length<=n->LD H->fX (K w.params) H a (ns.map V.int)->sp w [.ref a] H (λv _=>v=.bl true) λ_ _ _=>False)(X5:∀(w:abq) (H:Hp) (s:aaD) (e:aak) (s':aaD),CX w [] H s (λ_ _ _=>False) e s'->False) :
  PySem.W.WalkO q loose XP YP l.row.toRowW d [] (λf vs=>PySem.call f vs):=by
 refine Att.attach_call hn VB λw s₀ s₁ mg mb fa o pm cd kN a vs ns G Y ho hd oJ VC Sw KR fg hg=>?_;have KX:=hY w _ Y;obtain⟨fd,hb,hF⟩:=F w mg fa _ KX G.T.g VC;exact GQ KX G.T.g G.T.b G.T.builtins G.T.nolimit hg Sw KR (aaR fg S9) hr hF hb (λH hO hS=>Pu w H a ns fg hO hS) λH e s'=>X5 w H s₁ e s'
end L2
namespace L2
abbrev xi:CXT:=λ_ _ _ _ _ _=>False
abbrev E0:XK:=λ_ _ _=>False
def TY:Bg xi X E0:=λ_ _ _ _ _ _ _ h=>h.elim
structure K8 (K:aai)(x qual:Str)(st:aeO)(f:aaM)(fd:adA):Prop where
 ex:∃(oc:aak) (od:Option aaM) (kV kN pm:aak) (an:Option aaM) (cA ct:aak) (NB:Array (Option aak)),
  fd=abP x qual (dC st) (bI st) (ai st) .none kV kN pm an cA ct/\K.lookup f=some ⟨oc,od,.func fd,NB⟩/\afO K cA qual=true
 kp:acb K (.ref f)=true
section
variable {w:abq}{base:acP}
theorem K8.ok (F:K8 K x qual st f fd)(S:aK N ps (ai st))(len:∀vs H Q E,sp vs H Q E->vs.length=ps.length)(eG:∀(cA:aak) (A:aba) (outer:List Env) (s:aaD) (H:Hp) (vs:List V) (Q:VK) (E:XK),dS k (A.deeper (ac5 qual (ai st) s.heap.objs.size f cA))->sp vs H Q E->
   ∃t,vc (gG xi P w K mg base N qual (ai st) f cA A outer s H E).nox (bI st) t/\t {nx:=λ_ H'=>Q .non H',rt:=Q} (start N vs) H):iP P w K mg base xi (k+1) f fd ps sp:=by
 obtain⟨oc,od,kV,kN,pm,an,cA,ct,NB,rfl,lk,oJ⟩:=F.ex;refine NM lk oJ S len λA outer s H vs Q E hr Pu=>?_;obtain⟨t,h,q⟩:=eG cA A _ s H vs Q E hr Pu;exact⟨t,h.nox,q⟩
theorem K8.binds (F:K8 K x qual st f fd)(h:∀(kV kN pm:aak) (an:Option aaM) (cA ct:aak) (us:List aak),us.length=ps.length->afJ (abP x qual (dC st) (bI st) (ai st) .none kV kN pm an cA ct) ⟨us,[]⟩=pure (ps.zip us)):j9 K fd ps []:=by
 obtain⟨oc,od,kV,kN,pm,an,cA,ct,NB,rfl,lk,oJ⟩:=F.ex;exact .all (h kV kN pm an cA ct)
def GR {oc:aak}{od an:Option aaM}{NB:Array (Option aak)}{kV kN pm cA ct:aak}(l:K.lookup f=some ⟨oc,od,.func (abP x qual (dC st) (bI st) (ai st) .none kV kN pm an cA ct),NB⟩)(c:afO K cA qual=true)(k:acb K (.ref f)=true):K8 K x qual st f (abP x qual (dC st) (bI st) (ai st) .none kV kN pm an cA ct):=⟨⟨oc,od,kV,kN,pm,an,cA,ct,NB,rfl,l,c⟩,k⟩
end
def GU {A:aba}(hr:dS k A):A.units+1<abI:=aeA (Nat.add_le_add_left (by decide:1<=64) _) hr.units
def aJ (H H':Hp):Prop:=∀b o,H b=some o->H' b=some o
def aJ.refl (H:Hp):aJ H H:=λ_ _ h=>h
def aJ.trans (a:aJ H H1)(b:aJ H1 H2):aJ H H2:=λc o h=>b c o (a c o h)
theorem aJ.seq (e:aJ H H')(h:fX K H a xs):fX K H' a xs:=by
 rcases h with (h|⟨o,h⟩)|h
 ·exact .inl (.inl (e _ _ h))
 ·exact .inl (.inr ⟨o,e _ _ h⟩)
 ·exact .inr h
end L2
namespace L2
section
variable {κ:Type}[DecidableEq κ]
noncomputable def qS (aX:List (κ×V))(k:κ):Option V:=(aX.find? λkv=>decide (kv.1=k)).map (·.2)
noncomputable def oS (aX:List (κ×V))(k:κ)(v:V):List (κ×V):=
 if (aX.any λkv=>decide (kv.1=k))=true then aX.map (λkv=>if kv.1=k then (kv.1,v) else kv) else aX++[(k,v)]
def mT {p:κ×V}{r:List (κ×V)}{k:κ}(e:p.1=k):qS (p::r) k=some p.2:=by simp[qS,e]
def mU {p:κ×V}{r:List (κ×V)}{k:κ}(e:¬p.1=k):qS (p::r) k=qS r k:=by simp[qS,e]
theorem yY (k:κ):∀aX:List (κ×V),(aX.any λkv=>decide (kv.1=k))=(qS aX k).isSome
 | []=>rfl
 |p::r=>by
  rw[List.any_cons];by_cases e:p.1=k
  ·simp only[mT e,hJ e,Bool.true_or,Option.isSome_some]
  ·rw[mU e,hV e];exact yY k r
theorem qd (aX:List (κ×V))(k:κ)(v:V):(oS aX k v).length<=aX.length+1:=by
 unfold oS;split
 ·rw[aab];lia
 ·rw[aaj,aat,adH];lia
theorem mR.isSome_eq {o:Option V}{u:Option aak}(r:mR o u):o.isSome=u.isSome:=by
 cases o with
 |none=>cases u with
  |none=>rfl
  |some _=>exact (show False from r).elim
 |some _=>cases u with
  |none=>exact (show False from r).elim
  |some _=>rfl
theorem mR.getD {o:Option V}{u:Option aak}{d:V}{d':aak}(r:mR o u)(rd:aL d d'):aL (o.getD d) (u.getD d'):=by
 cases o with
 |none=>cases u with
  |none=>exact rd
  |some _=>exact (show False from r).elim
 |some _=>cases u with
  |none=>exact (show False from r).elim
  |some _=>exact r
theorem KV.val {aX:List (κ×V)}{vs:List (κ×aak)}(r:KV aX vs)(k:κ):mR (qS aX k) (valueAt vs k):=by
 induction r with
 |nil=>exact True.intro
 | @cons p q ps qs h t ih=>
  obtain⟨h1,h2⟩:=h;by_cases e:p.1=k
  ·have e' :=h1.symm.trans e;have b:valueAt (q::qs) k=some q.2:=by simp[valueAt,e']
   rw[mT e,b];exact h2
  ·have e':¬q.1=k:=λz=>e (h1.trans z);have b:valueAt (q::qs) k=valueAt qs k:=by simp[valueAt,e']
   rw[mU e,b];exact ih
theorem KV.any {aX:List (κ×V)}{vs:List (κ×aak)}(r:KV aX vs)(k:κ):(aX.any λkv=>decide (kv.1=k))=vs.any λkv=>decide (kv.1=k):=by
 induction r with
 |nil=>rfl
 |cons h t ih=>rw[List.any_cons,List.any_cons,ih,h.1]
theorem KV.repl {aX:List (κ×V)}{vs:List (κ×aak)}(r:KV aX vs)(k:κ){u:aak}(ry:aL y u) :
  KV (aX.map λkv=>if kv.1=k then (kv.1,y) else kv) (vs.map λkv=>if kv.1=k then (kv.1,u) else kv):=by
 induction r with
 |nil=>exact .nil
 | @cons p q ps qs h t ih=>
  rw[aag,aag];refine .cons ?_ ih;obtain⟨h1,h2⟩:=h;by_cases e:p.1=k
  ·rw[h9 e,h9 (h1.symm.trans e)];exact⟨h1,ry⟩
  ·rw[hZ e,hZ (λz=>e (h1.trans z))];exact⟨h1,h2⟩
def KV.put {aX:List (κ×V)}{vs:List (κ×aak)}(r:KV aX vs)(k:κ){u:aak}(ry:aL y u):KV (oS aX k y) (stored vs k u):=by
 unfold oS stored;rw[r.any k];by_cases e:(vs.any λkv=>decide (kv.1=k))=true
 ·rw[h9 e,h9 e];exact r.repl k ry
 ·rw[hZ e,hZ e];exact Paired.snoc r ⟨rfl,ry⟩
def KV.length {aX:List (κ×V)}{vs:List (κ×aak)}(r:KV aX vs):aX.length=vs.length:=adh r
end
theorem sv {w:abq}{k:Key}{u:aak}(r:aL (kV k) u):(dR P w).is k u=true:=by
 cases k with
 |inl i=>obtain⟨t,e⟩:=(show ∃t,u=Value.int i t from r);subst e;exact yQ P w i t
 |inr x=>obtain⟨t,e⟩:=(show ∃t,u=Value.str x t from r);subst e;exact yR P w x t
theorem vS {P:acC}{w:abq}:∀{ks:List Key} {us:List aak},aV (ks.map kV) us->ItemsAre (dR P w) ks us
 | [],_,r=>by cases r;exact .nil
 |k::ks,_,r=>by
  cases r with
  |cons h t=>exact .cons (sv h) (vS t)
abbrev KT (H:Hp):List (List Key×V)->List (List Key×aaM×aak)->Prop:=adD λp q=>p.1=q.1/\H q.2.1=some (.tup (p.1.map kV))/\aL p.2 q.2.2
theorem KT.val {xs:List (List Key×aaM×aak)}(r:KT H aX xs)(k:List Key):mR (qS aX k) ((atKey xs k).map (·.2)):=by
 induction r with
 |nil=>exact True.intro
 | @cons p q ps qs h t ih=>
  obtain⟨h1,_,h2⟩:=h;by_cases e:p.1=k
  ·have e' :=h1.symm.trans e;have b:atKey (q::qs) k=some q.2:=by simp[atKey,e']
   rw[mT e,b];exact h2
  ·have e':¬q.1=k:=λz=>e (h1.trans z);have b:atKey (q::qs) k=atKey qs k:=by simp[atKey,e']
   rw[mU e,b];exact ih
theorem KT.repl {xs:List (List Key×aaM×aak)}(r:KT H aX xs)(k:List Key){u:aak}(ry:aL y u) :
  KT H (aX.map λkv=>if kv.1=k then (kv.1,y) else kv) (xs.map (putAt k u)):=by
 induction r with
 |nil=>exact .nil
 | @cons p q ps qs h t ih=>
  rw[aag];refine .cons ?_ ih;obtain⟨h1,h2,h3⟩:=h;unfold putAt;by_cases e:p.1=k
  ·rw[h9 e,h9 (h1.symm.trans e)];exact⟨h1,h2,ry⟩
  ·rw[hZ e,hZ (λz=>e (h1.trans z))];exact⟨h1,h2,h3⟩
def KT.put {xs:List (List Key×aaM×aak)}(r:KT H aX xs)(k:List Key){u:aak}(hb:H b=some (.tup (k.map kV)))(ry:aL y u) :
  KT H (oS aX k y) (storedH xs k b u):=by
 have e:(aX.any λkv=>decide (kv.1=k))=(atKey xs k).isSome:=by
  rw[yY,(r.val k).isSome_eq,ac8]
 unfold oS storedH;rw[e];by_cases q:(atKey xs k).isSome=true
 ·rw[h9 q,h9 q];exact r.repl k ry
 ·rw[hZ q,hZ q];exact Paired.snoc r ⟨rfl,hb,ry⟩
def KT.keeps {xs:List (List Key×aaM×aak)}(r:KT H aX xs)(ht:∀b ys,H b=some (.tup ys)->H' b=some (.tup ys)):KT H' aX xs:=
 Paired.mapP r λ_ _ z=>⟨z.1,ht _ _ z.2.1,z.2.2⟩
section
variable {w:abq}
def NO {u:HO}(ok:jn P w H h)(e:Rd H a u):cP P w H h a u:=e.ok ok
def qe {aX:List (Key×V)}(ok:jn P w H h)(e:Rd H a (.dK aX)):aX.length<=aah/\(a==abF)=false/\∃vs,KV aX vs/\h.DictOf (dR P w) a vs:=
 show cP P w H h a _ from NO ok e
def TZ {aX:List (Key×V)}(ok:jn P w H h)(e:H a=some (.dK aX)):aX.length<=aah/\(a==abF)=false/\∃vs,KV aX vs/\h.DictOf (dR P w) a vs:=qe ok (.inl e)
theorem lQ {ks:List Key}(ok:jn P w H h)(e:H a=some (.tup (ks.map kV))):(tupleKind (dR P w)).is h ks a:=by
 obtain⟨_,aD,r,⟨o,h1,h2,n,h3⟩,_⟩:=(show cP P w H h a _ from ok a _ e);exact⟨o,aD.toArray,n,h1,h2,h3,by simpa using vS r⟩
theorem qf (ok:jn P w H h)(e:Rd H a (.dT aX)):aX.length<=aah/\(a==abF)=false/\
  ∃xs,KT H aX xs/\h.DictOfH (tupleKind (dR P w)) a xs:=by
 obtain⟨z,y,xs,r,o,es,ep,h1,h2,h3,h4,h5⟩:=(show cP P w H h a _ from NO ok e);refine⟨z,y,xs,r,o,es,ep,h1,h2,h3,h4,λx hx=>?_,h5⟩;have all:∀{l:List _} {m:List _},KT H l m->∀x∈m,(tupleKind (dR P w)).is h x.1 x.2.1:=by
  intro l m q
  induction q with
  |nil=>intro x hx;exact nomatch hx
  | @cons p q ps qs hq t ih=>
   intro x hx;rcases aaw.mp hx with e|hx
   ·subst e;exact lQ ok (by rw[←hq.1];exact hq.2.1)
   ·exact ih x hx
 exact all r x hx
def T1 (ok:jn P w H h)(e:H a=some (.dT aX)):aX.length<=aah/\(a==abF)=false/\
  ∃xs,KT H aX xs/\h.DictOfH (tupleKind (dR P w)) a xs:=qf ok (.inl e)
end
def Bk (H:Hp)(a:aaM)(y:V)(r:Option V):Prop:=
 (∃aX k,Rd H a (.dK aX)/\y=kV k/\r=qS aX k)\/∃aX k b,Rd H a (.dT aX)/\y=.ref b/\H b=some (.tup (k.map kV))/\r=qS aX k
def T2 (H:Hp)(a:aaM)(y v:V)(H':Hp):Prop:=
 (∃aX k,H a=some (.dK aX)/\y=kV k/\aX.length<aah/\H'=cT H a (.dK (oS aX k v))) \/
 ∃aX k b,H a=some (.dT aX)/\y=.ref b/\H b=some (.tup (k.map kV))/\aX.length<aah/\H'=cT H a (.dT (oS aX k v))
section
variable {u r:aak}{o:Option V}{A:aba}
def aE.big (I:aE X pins σ H s):abF<s.heap.objs.size:=by
 have h:=(I.mod.glob.keeps I.bk).lt;exact Nat.lt_trans (by decide) h
theorem ES (hu:A.units+1<abI)(I:aE X pins σ H s)(g:Bk H a y (some v))(ry:aL y u)(h:∀w' s',aE X pins σ H s'->aL v w'->Q w' s') :
  aaW (aa1 X.prog X.w) A (aft (.ref a) u) Q E s:=by
 rcases g with⟨aX,k,e,ey,l⟩|⟨aX,k,b,e,ey,eb,l⟩
 ·subst ey;obtain⟨z,hd,vs,rel,dd⟩:=qe I.hok e;obtain⟨w',hw,A7⟩:=mR.some_of (by rw[l];exact rel.val k);exact wpAny_getItem_of (sv ry) dd.mapOf hw (h w' _ (I.tok _) A7)
 ·subst ey;cases (show u=Value.ref b from ry);obtain⟨z,hd,xs,rel,dd⟩:=qf I.hok e;obtain⟨w',hw,A7⟩:=mR.some_of (by rw[l];exact rel.val k);obtain⟨p,hp,Gh⟩:=ady.mp hw;refine wpAny_getItem_heap (acY hu) (lQ I.hok eb) dd hp ?_;rw[Gh];exact h w' _ (I.tok _) A7
theorem WX (hu:A.units+1<abI)(I:aE X pins σ H s)(g:Bk H a y o)(ry:aL y u)(h:∀s',aE X pins σ H s'->Q (.bool o.isSome) s') :
  aaW (aa1 X.prog X.w) A (abO .In u (.ref a)) Q E s:=by
 rcases g with⟨aX,k,e,ey,l⟩|⟨aX,k,b,e,ey,eb,l⟩
 ·subst ey;obtain⟨z,hd,vs,rel,dd⟩:=qe I.hok e;refine wpAny_in_of (sv ry) hd dd.mapOf ?_;rw[←(rel.val k).isSome_eq,←l];exact h _ (I.tok _)
 ·subst ey;cases (ry);obtain⟨z,hd,xs,rel,dd⟩:=qf I.hok e;refine wpAny_in_heap (acY hu) (lQ I.hok eb) hd dd ?_;have q:=(rel.val k).isSome_eq;rw[ac8] at q;rw[←q,←l];exact h _ (I.tok _)
theorem LF (hu:A.units+1<abI)(I:aE X pins σ H s)(g:Bk H a y o)(ry:aL y u)(h:∀s',aE X pins σ H s'->Q (.bool (!o.isSome)) s') :
  aaW (aa1 X.prog X.w) A (abO .NotIn u (.ref a)) Q E s:=by
 rcases g with⟨aX,k,e,ey,l⟩|⟨aX,k,b,e,ey,eb,l⟩
 ·subst ey;obtain⟨z,hd,vs,rel,dd⟩:=qe I.hok e;refine wpAny_notIn_of (sv ry) hd dd.mapOf ?_;rw[←(rel.val k).isSome_eq,←l];exact h _ (I.tok _)
 ·subst ey;cases (show u=Value.ref b from ry);obtain⟨z,hd,xs,rel,dd⟩:=qf I.hok e;refine wpAny_notIn_heap (acY hu) (lQ I.hok eb) hd dd ?_;have q:=(rel.val k).isSome_eq;rw[ac8] at q;rw[←q,←l];exact h _ (I.tok _)
def rF {t':Nat}{ob:HO}(I:aE X pins σ H s)(mu:SV (H a))(hs:aek a s.heap h')(he:∃q,h'.get? a=some q)(new:cP X.prog X.w (cT H a ob) h' a ob) :
  aE X pins σ (cT H a ob) {s with heap:=h',toks:=t'}:=
 I.write mu (.inl rfl) (λb q hb z=>(hs.2 b hb).trans z) he new
def Qo {w:abq}{aX:List (Key×V)}{vs:List (Key×aak)}(z:aX.length<=aah)(hd:(a==abF)=false)(rel:KV aX vs)(dd:h'.DictOf (dR P w) a vs) :
  cP P w H' h' a (.dK aX):=⟨z,hd,vs,rel,dd⟩
theorem ET {Q:Unit->aaD->Prop}(hu:A.units+1<abI)(I:aE X pins σ H s)(g:T2 H a y v H')(ry:aL y u)(rv:aL v r)(h:∀s',aE X pins σ H' s'->Q () s') :
  aaW (aa1 X.prog X.w) A (setItem (.ref a) u r) Q E s:=by
 rcases g with⟨aX,k,e,ey,l,eH⟩|⟨aX,k,b,e,ey,eb,l,eH⟩
 ·subst ey eH;obtain⟨z,hd,vs,rel,dd⟩:=TZ I.hok e;have hz:vs.length<=aah:=by rw[←rel.length];exact z
  have hl:(oS aX k v).length<=aah:=by have:=qd aX k v;lia
  refine wpAny_setItem_pairs (sv ry) dd λh' Pw hs=>h _ ?_;have he:∃q,h'.get? a=some q:=let ⟨q,_,_,hq,_⟩:=Pw;⟨q,hq⟩
  exact rF I (by rw[e];exact True.intro) hs he (Qo hl hd (rel.put k rv) Pw)
 ·subst ey eH;cases (show u=Value.ref b from ry);obtain⟨z,hd,xs,rel,dd⟩:=T1 I.hok e;have hz:xs.length<=aah:=by rw[←adh rel];exact z
  have hl:(oS aX k v).length<=aah:=by have:=qd aX k v;lia
  refine wpAny_setItem_heap (acY hu) (lQ I.hok eb) dd λh' Pw hs=>h _ ?_;obtain⟨q,es,ep,hq,h2,h3,h4,_,h5⟩:=Pw;refine rF I (by rw[e];exact True.intro) hs ⟨q,hq⟩ ⟨hl,hd,_,(rel.put k eb rv).keeps λc ys ec=>?_,q,es,ep,hq,h2,h3,h4,h5⟩;rw[aI (Tf ec e (λz=>nomatch z))];exact ec
end
def Qp (i:aca):Prop:=∀ov iv,subscripted i false ov iv=operate [ov,iv] (aft ov iv)
theorem LG {w:abq}{A:aba}{value slice:aca}{T id:String}(hl:typeLookup (.type T) "__getitem__"=pure (some (.builtin id)))(hs:Qp slice)(h:aaW (aa1 prog w) A (adB value env) (λo s₁=>aaW (aa1 prog w) A (adB slice env) (λi s₂=>s₂.TypeIs o T/\aaW (aa1 prog w) A (aft o i) Q E s₂) E s₁) E s) :
  aaW (aa1 prog w) A (adB (.Subscript value slice pos) env) Q E s:=by
 refine Subscript_ (abk h (λo s₁ h₁=>abk h₁ (λi s₂ h₂=>?_) λ_ _ x=>x) λ_ _ x=>x);obtain⟨hT,h₂⟩:=h₂;refine aaa ?_;refine aaa (afu hT hl ?_);have fin:aaW (aa1 prog w) A (subscripted slice false o i) (λr s₃=>aaW (aa1 prog w) A (letTemporaryGo value o r >>= λ_=>pure r) Q E s₃) E s₂:=by
  rw[hs o i];exact wpAny_operating (abk h₂ (λr s₃ h₃=>aaa (wpAny_letTemporaryGo (aae h₃))) λ_ _ x=>x)
 first
  |exact aae (aaa fin)
  |exact aaa _
  |exact aaa fin
theorem yZ {o:Option V}(I:aE X pins σ H s)(g:Bk H a y o):s.TypeIs (.ref a) "dict":=by
 rcases g with⟨aX,k,e,_,_⟩|⟨aX,k,b,e,_,_,_⟩
 ·obtain⟨_,_,vs,_,dd⟩:=qe I.hok e;exact dd.typeIs
 ·obtain⟨_,_,xs,_,dd⟩:=qf I.hok e;exact dd.typeIs
def y_ {w:abq}(h:acP)(hb:abF<h.objs.size):cP P w H (h.push {cls:=.type "dict",data:=.dict #[]}) h.objs.size (.dK []):=
 ⟨acM _,beq_eq_false_iff_ne.mpr (Ne.symm (aaN hb)),[],.nil,Heap.DictOf.new h⟩
def Qq:TE:=λ_ H Q=>∀p,H p=none->Q (.ref p) (cT H p (.dK []))
def GV:PE X (.Dict [] [] pos) Qq:=λpins s σ H Q I h=>
 wpAny_Dict_empty ⟨.ref _,_,I.laid (λ_ _ q=>aad _ q) (aao _) (y_ _ I.big),rfl,h _ (I.hok.fresh (aao _))⟩
structure M1 (X:Cx)(o:aca)(m:Str)(bW:Pos)(e:aca)(cpos:Pos):Prop where
 base:adP o m X.env (adB o X.env)=adB o X.env
 few:((acq cpos (aaC [e] X.env)).all (λx=> !x.1)&&(backToKw cpos (aeU [] X.env)).all (λx=>x.1.isSome)
  && decide (([e]:List aca).length+([]:List aex).length+(if ([]:List aex).isEmpty then 0 else 1)<30))=true
 line:(bW.endLine==cpos.line)=true
 trees:acq cpos (aaC [e] X.env)=[(false,adB e X.env)]
structure M2 (X:Cx)(o:aca)(m:Str)(bW:Pos)(e f:aca)(cpos:Pos):Prop where
 base:adP o m X.env (adB o X.env)=adB o X.env
 few:((acq cpos (aaC [e,f] X.env)).all (λx=> !x.1)&&(backToKw cpos (aeU [] X.env)).all (λx=>x.1.isSome)
  && decide (([e,f]:List aca).length+([]:List aex).length+(if ([]:List aex).isEmpty then 0 else 1)<30))=true
 line:(bW.endLine==cpos.line)=true
 trees:acq cpos (aaC [e,f] X.env)=[(false,adB e X.env),(false,adB f X.env)]
def Yz (H:Hp)(a:aaM):Prop:=(∃aX,Rd H a (.dK aX))\/∃aX,Rd H a (.dT aX)
theorem Qr (I:aE X pins σ H s)(d:Yz H a) :
  s.TypeIs (.ref a) "dict"/\(∀b,Value.ref a=.ref b->∃ob,s.heap.get? b=some ob/\ob.dict=none)/\(a==abF)=false:=by
 rcases d with⟨aX,e⟩|⟨aX,e⟩
 ·obtain⟨_,hd,vs,_,dd⟩:=qe I.hok e;refine⟨dd.typeIs,λb q=>?_,hd⟩;cases q;obtain⟨ob,_,_,h1,h2,_⟩:=dd;exact⟨ob,h1,h2.2.1⟩
 ·obtain⟨_,hd,xs,_,dd⟩:=qf I.hok e;refine⟨dd.typeIs,λb q=>?_,hd⟩;cases q;obtain⟨ob,_,_,h1,h2,_⟩:=dd;exact⟨ob,h1,h2.2.1⟩
section
variable {d:V}{u r:aak}{o:Option V}{A:aba}
theorem Qs (hu:A.units+1<abI)(I:aE X pins σ H s)(g:Bk H a y o)(ry:aL y u)(h:∀w' s',aE X pins σ H s'->aL (o.getD .non) w'->Q w' s') :
  aaW (aa1 X.prog X.w) A (call (.builtin "dict.get") [.ref a,u]) Q E s:=by
 rcases g with⟨aX,k,e,ey,l⟩|⟨aX,k,b,e,ey,eb,l⟩
 ·subst ey;obtain⟨z,hd,vs,rel,dd⟩:=qe I.hok e;refine aep abR dd.typeIs aci (aeB _ _) (meets_dict_get _ a (sv ry) hd) ⟨_,dd.mapOf,h _ _ (I.tok _) ?_⟩;rw[l];exact (rel.val k).getD rfl
 ·subst ey;cases (ry);obtain⟨z,hd,xs,rel,dd⟩:=qf I.hok e;refine aep abR dd.typeIs aci (aeB _ _) (meetsH_dict_get _ a b hd) ⟨acY hu,k,xs,lQ I.hok eb,dd,h _ _ (I.tok _) ?_⟩;rw[l];exact (rel.val k).getD rfl
theorem Qt (hu:A.units+1<abI)(I:aE X pins σ H s)(g:Bk H a y o)(ry:aL y u)(rd:aL d r)(h:∀w' s',aE X pins σ H s'->aL (o.getD d) w'->Q w' s') :
  aaW (aa1 X.prog X.w) A (call (.builtin "dict.get") [.ref a,u,r]) Q E s:=by
 rcases g with⟨aX,k,e,ey,l⟩|⟨aX,k,b,e,ey,eb,l⟩
 ·subst ey;obtain⟨z,hd,vs,rel,dd⟩:=qe I.hok e;refine aep abR dd.typeIs aci (aeC _ _ _) (meets_dict_get_default _ a (sv ry) hd r) ⟨_,dd.mapOf,h _ _ (I.tok _) ?_⟩;rw[l];exact (rel.val k).getD rd
 ·subst ey;cases (show u=Value.ref b from ry);obtain⟨z,hd,xs,rel,dd⟩:=qf I.hok e;refine aep abR dd.typeIs aci (aeC _ _ _) (meetsH_dict_get_default _ a b hd r) ⟨acY hu,k,xs,lQ I.hok eb,dd,h _ _ (I.tok _) ?_⟩;rw[l];exact (rel.val k).getD rd
end
end L2
namespace L2
end L2
namespace L2
theorem Bl (hf:∀x,(x,NameKind.free)∈scope.names->∃c,env.cells.lookup x=some c) :
  ∃cl:List (Str×aaM),closureFor scope env=pure cl/\(∀x c,cl.lookup x=some c->env.cells.lookup x=some c)/\∀x,(x,NameKind.free)∈scope.names->∃c,cl.lookup x=some c:=by
 have gen:∀(names:List _) (cs:List _),(∀x,(x,NameKind.free)∈names->∃c,env.cells.lookup x=some c)->(∀x c,cs.lookup x=some c->env.cells.lookup x=some c)->
   ∃cl:List _,(forIn names cs λ(x:Str×agd) (r:List _)=>(match x with|(name,kind)=>if (kind==NameKind.free)=true then (do let a ←cellOf env name;pure (ForInStep.yield ((name,a)::r))) else pure (ForInStep.yield r):Sem _))=(pure cl:Sem _)/\
    (∀x c,cl.lookup x=some c->env.cells.lookup x=some c)/\(∀x c,cs.lookup x=some c->∃c',cl.lookup x=some c')/\∀x,(x,NameKind.free)∈names->∃c,cl.lookup x=some c:=by
  intro names
  induction names with
  |nil=>intro cs _ h;exact⟨cs,rfl,h,λx c e=>⟨c,e⟩,λx hx=>absurd hx (by simp)⟩
  |cons p r ih=>
   intro cs hn h;obtain⟨n,k⟩:=p;by_cases hk:k=NameKind.free
   ·subst hk;obtain⟨c,hc⟩:=hn n aal;have h':∀x c',((n,c)::cs).lookup x=some c'->env.cells.lookup x=some c':=λx c' e=>by
     rw[acT] at e;by_cases hx:x==n
     ·rw[hx] at e;have:=by simpa using hx
      subst this;cases e;exact hc
     ·rw[adQ.mpr hx] at e;exact h x c' e
    obtain⟨cl,e1,e2,e3,e4⟩:=ih _ (λx hx=>hn x (aan _ hx)) h';refine⟨cl,?_,e2,λx c' e=>?_,λx hx=>?_⟩
    ·rw[afv];have:cellOf env n=pure c:=by unfold cellOf;rw[hc]
     simp only[this];exact e1
    ·by_cases hx:x=n
     ·subst hx;exact e3 x c (by simp)
     ·exact e3 x c' (by rw[acT,show (x==n)=false from by simpa using hx];exact e)
    ·rcases aaw.mp hx with e|hx
     ·cases e;exact e3 n c (by simp)
     ·exact e4 x hx
   ·obtain⟨cl,e1,e2,e3,e4⟩:=ih cs (λx hx=>hn x (aan _ hx)) h;refine⟨cl,?_,e2,e3,λx hx=>?_⟩
    ·rw[afv];have:(k==NameKind.free)=false:=by simpa using hk
     simp only[this,if_false];exact e1
    ·rcases aaw.mp hx with e|hx
     ·cases e;exact absurd rfl hk
     ·exact e4 x hx
 obtain⟨cl,e1,e2,_,e4⟩:=gen _ [] hf (λx c e=>by simp at e);refine⟨cl,?_,e2,e4⟩;exact (congrArg (λm=>m >>= λr=>pure r) e1).trans rfl
structure rG where
 C:aaM
 s:aaD
 H:Hp
 fp:List aaM
 pins:List (aaM×Obj)
 cl:List (Str×aaM)
noncomputable abbrev fY (X:Cx)(scope:afV)(N:List Str)(Y:rG):Cx where
 prog:=X.prog
 w:=X.w
 K:=X.K
 mg:=X.mg
 base:=X.base
 A:=X.A
 N:=N
 s₀:=Y.s
 H₀:=Y.H
 env:=compEnvC scope Y.cl Y.C X.env
 outer:=X.stack
 stack:=X.stack
 ex:=Y.fp
 fn:=λ_=>false
 calm:=X.calm
 pn:=X.pn++Y.pins
 xe:=λ_ _=>False
noncomputable def vh (lx:afV)(NX:List Str)(scope:afV)(N:List Str)(js:List (Option Nat)):Bool:=
 decide (scope.kind=.function)&&scope.names.all (λy=>decide (y.2≠.cell))&&scope.names.all (λy=>decide (y.2=.local->scope.names.lookup y.1=some .local))&&decide (js.length=N.length) &&
 (js.zip N).all (λp=>match p.1 with|none=>true|some j=>decide (NX[j]? = some p.2)&&decide (scope.names.lookup p.2=some .free)) &&
 scope.names.all (λy=>decide (y.2=.free->lx.names.lookup y.1=some .cell\/lx.names.lookup y.1=some .free))
structure mV (lx:afV)(NX:List Str)(scope:afV)(N:List Str)(js:List (Option Nat)):Prop where
 kind:scope.kind=.function
 nocell:∀y∈scope.names,y.2≠.cell
 loc:∀y∈scope.names,y.2=.local->scope.names.lookup y.1=some .local
 len:js.length=N.length
 cap:∀(i j:Nat) (x:Str),js[i]? = some (some j)->N[i]? = some x->NX[j]? = some x/\scope.names.lookup x=some .free
 free:∀x,(x,NameKind.free)∈scope.names->lx.names.lookup x=some .cell\/lx.names.lookup x=some .free
theorem vh.to {lx:afV}{NX:List Str}(h:vh lx NX scope N js=true):mV lx NX scope N js:=by
 unfold vh at h;simp only[aau] at h;obtain⟨⟨⟨⟨⟨h1,h2⟩,h3⟩,h4⟩,h5⟩,h6⟩:=h;refine⟨of_decide_eq_true h1,λy hy=>of_decide_eq_true (aaJ.mp h2 y hy),λy hy=>of_decide_eq_true (aaJ.mp h3 y hy),of_decide_eq_true h4,λi j x e1 e2=>?_,λx hx=>of_decide_eq_true (aaJ.mp h6 _ hx) rfl⟩;have hz:(js.zip N)[i]? = some (some j,x):=by
  rw[ad8];exact⟨e1,e2⟩
 have q:=aaJ.mp h5 _ (aaZ hz);simp only[aau] at q;exact⟨of_decide_eq_true q.1,of_decide_eq_true q.2⟩
noncomputable def CM (js:List (Option Nat))(σ:St):St:=js.map λo=>match o with
 |none=>none
 |some j=>match σ[j]? with
  |some v=>v
  |none=>none
theorem mW (wU:∀y∈scope.names,y.2≠.cell)(h:(relabel scope env).names.lookup x=some .cell\/(relabel scope env).names.lookup x=some .free):(x,NameKind.free)∈scope.names:=by
 have gen:∀k,(k=NameKind.cell\/k=NameKind.free)->(relabel scope env).names.lookup x=some k->(x,NameKind.free)∈scope.names:=λk hk e=>by
  have hm:=abG e;obtain⟨⟨n,k0⟩,hy,q⟩:=aas.mp hm;dsimp only at q;split at q
  ·rename_i c;simp only[aau,beq_iff_eq] at c;cases q;obtain⟨⟨c1,_⟩,_⟩:=c;rw[c1] at hy;exact hy
  ·cases q;rcases hk with hk|hk
   ·exact absurd hk (wU _ hy)
   ·rw[hk] at hy;exact hy
 rcases h with h|h
 ·exact gen _ (.inl rfl) h
 ·exact gen _ (.inr rfl) h
theorem d9 {env:Env}{x:Str}:∀{names:List (Str×agd)},names.lookup x=some .free->
  (names.map λ(n,k)=>if (k==NameKind.free&&env.scope.kind==.function&&env.kindOf n==some .cell) then (n,NameKind.cell) else (n,k)).lookup x=some .cell \/
  (names.map λ(n,k)=>if (k==NameKind.free&&env.scope.kind==.function&&env.kindOf n==some .cell) then (n,NameKind.cell) else (n,k)).lookup x=some .free
 | [],h=>by simp at h
 | (n,k)::r,h=>by
  rw[aag];by_cases hx:x==n
  ·rw[acT,hx] at h;cases h;by_cases c:(NameKind.free==NameKind.free&&env.scope.kind==.function&&env.kindOf n==some .cell)=true
   ·refine .inl ?_;show List.lookup x ((if (NameKind.free==NameKind.free&&env.scope.kind==.function&&env.kindOf n==some .cell)=true then (n,NameKind.cell) else (n,NameKind.free))::_)=_;rw[h9 c,acT,hx]
   ·refine .inr ?_;show List.lookup x ((if (NameKind.free==NameKind.free&&env.scope.kind==.function&&env.kindOf n==some .cell)=true then (n,NameKind.cell) else (n,NameKind.free))::_)=_;rw[hZ c,acT,hx]
  ·have wV:=adQ.mpr hx;rw[acT,wV] at h;have ih:=d9 (env:=env) h;have e:∀p ,p.1=n->List.lookup x (p::(r.map λ(n,k)=>if (k==NameKind.free&&env.scope.kind==.function&&env.kindOf n==some .cell) then (n,NameKind.cell) else (n,k))) =
     List.lookup x _:=λp hp=>by
    cases hp;rw[acT,wV]
   rw[e _ (by dsimp only;split<;>rfl)];exact ih
def EU (X:Cx)(vG:List aca)(t:TT):Prop:=
 ∀(pins:List (aaM×Obj)) (s:aaD) (σ:St) (H:Hp) (Q:Bool->Hp->Prop),aE X pins σ H s->t σ H Q->
  aaW (aa1 X.prog X.w) X.A (forIn vG true λc r=>if r=true then do let ok ←isTrue c X.env (adB c X.env);pure (ForInStep.yield ok) else pure (ForInStep.yield r)) (TP X pins σ Q) X.xe s
def WY:TT:=λ_ H Q=>Q true H
def GW:EU X [] WY:=λ_ _ _ H _ I h=>wpAny_tests_nil ⟨H,I,h⟩
def GX {t:TT}(h:PT X c t):EU X [c] t:=λpins s σ H Q I q=>wpAny_tests_one (h pins s σ H Q I q)
end L2
namespace L2
theorem ka {w:abq}{A:aba}{R:Result->aaD->Prop}{uZ:aca}{it cD:aak}(I:Nat->aaD->Prop)(turn:∀n s,I n s->aaW (aa1 prog w) A (pyNext it) (λr s₁=>match r with
   |none=>R (.ok .next) s₁
   |some v=>aaW (aa1 prog w) A (letOwnedTupleGo uZ it v) (λ_ Y2=>aaW (aa1 prog w) A (assign uZ env v) (λ_ s₂=>
     aaW (aa1 prog w) A (forIn vG true λc r=>if r=true then do let ok ←isTrue c env (adB c env);pure (ForInStep.yield ok) else pure (ForInStep.yield r)) (λok s₃=>
      if ok=true then aaW (aa1 prog w) A (adB elt env) (λx s₄=>
       aaW (aa1 prog w) A (call (.builtin "list.append") [cD,x]) (λ_ s₅=>∃m,m<n/\I m s₅) (λ_ _=>False) s₄) (λ_ _=>False) s₃
      else ∃m,m<n/\I m s₃) (λ_ _=>False) s₂) (λ_ _=>False) Y2) (λ_ _=>False) s₁) (λ_ _=>False) s)(n:Nat)(h:I n s) :
  codeAny (aa1 prog w) A (.compLoop (.ListComp elt [⟨uZ,iter,vG,0⟩] scope pos) 0 it cD env) R s:=by
 refine codeAny_loop rfl I (λn s hI=>?_) n h;refine wpAny_noted ?_;rw[compTurn_list];refine aaa (wpAny_standAt (aaa (abk (turn n s hI) (λr s₁ h₁=>?_) λ_ _ h'=>h'.elim)));cases r with
 |none=>exact aae h₁
 |some v=>
  refine aaa (abk h₁ (λ_ Y2 ZN=>?_) λ_ _ h'=>h'.elim);refine aaa (abk ZN (λ_ s₂ h₂=>aaa (abk h₂ (λok s₃ h₃=>?_) λ_ _ h'=>h'.elim)) λ_ _ h'=>h'.elim);cases ok with
  |false=>exact aae ⟨rfl,h₃⟩
  |true=>
   exact aaa (aaa (abk h₃ (λx s₄ h₄=>aaa (abk h₄ (λ_ s₅ h₅=>aae (aae ⟨rfl,h₅⟩)) λ_ _ h'=>h'.elim)) λ_ _ h'=>h'.elim))
def T3 (J:It)(js:List (Option Nat))(g:rG->TG)(tt:rG->TT)(te:rG->TE)(σ:St)(H1:Hp)(P:List V->Hp->Prop):Prop:=
 ∀Y:rG,∃W:Nat->Nat->List V->Hp->Prop,(∃m,W 0 m [] H1)/\∀i m ys H2,W i m ys H2->
  (J.stop i H2/\P ys H2) \/
  (J.go i H2/\ys.length<aah/\∃Nx:List V->Hp->Prop,(∀PD H',Nx PD H'->∃m',m'<m/\W (i+1) m' PD H')/\∀x H3,J.yld i H2 x H3->g Y x (CM js σ) H3 λσ4 H4=>tt Y σ4 H4 λb H5=>
   if b=true then te Y σ4 H5 λy H6=>Nx (ys++[y]) H6 else Nx ys H5)
def V3 (wi:TI)(js:List (Option Nat))(g:rG->TG)(tt:rG->TT)(te:rG->TE):TE:=λσ H Q=>wi σ H λJ H1=>
 T3 J js g tt te σ H1 λys H2=>∀p,H2 p=none->Q (.ref p) (cT H2 p (.lst ys))
theorem sA {E:aak->aaD->Prop}{s2:aaD}{lx:afV}{g:rG->TG}{tt:rG->TT}{te:rG->TE}{J:It}{tn:Nat->acP->Prop}{P:List V->Hp->Prop}{cl:List (Str×aaM)}{RR:aak->aaM->Result->aaD->Prop}(I:aE X pins σ H s2)(hc:X.calm=true)(T:w_ X.prog X.w X.K tg J fp it tn)(lN:tn 0 s2.heap)(f2:∀b∈fp,qQ X pins H b)(yL:∀Y:rG,PG (fY X scope N Y) tg (g Y)/\EU (fY X scope N Y) vG (tt Y)/\PE (fY X scope N Y) elt (te Y))(S:mV lx X.N scope N js)(lC:X.env.scope=lx)(c1:∀x c,cl.lookup x=some c->X.env.cells.lookup x=some c)(c2:∀x,(x,NameKind.free)∈scope.names->∃c,cl.lookup x=some c)(h:T3 J js g tt te σ H P)(hR:∀(cD C:aaM) (ys:List V) (H':Hp) (s':aaD),aE X pins σ (cT H' cD (.lst ys)) s'->(∃m,s'.heap.Ns C m)->qQ X pins (cT H' cD (.lst ys)) C->H' cD=none->P ys H'->RR (.ref cD) C (.ok .next) s') :
  aaW (aa1 X.prog X.w) X.A (newList []) (λcD s₃=>aaW (aa1 X.prog X.w) X.A (newFunctionEnv scope X.env.globals cl [] X.env.qual none .none (some X.env)) (λVF s₄=>
   codeAny (aa1 X.prog X.w) X.A (.compStart (.ListComp elt [⟨tg,iter,vG,0⟩] scope pos) 0 (.ref it) cD {VF with scope:=relabel scope X.env}) (RR cD VF.locals) s₄) E s₃) E s2:=by
 refine abl (wpAny_newFunctionEnv S.nocell (by intro y hy;simp at hy) (λh₁ VG Sz=>?_) S.kind);generalize hH2:s2.heap.push _=H2 at VG Sz ⊢;have hC:H2.objs.size=s2.heap.objs.size+1:=by rw[←hH2,ab0]
 have Wt:s2.heap.objs.size≠H2.objs.size:=by rw[hC];exact aaN (aed _)
 have ND:s2.heap.objs.size<=H2.objs.size:=by rw[hC];exact Nat.le_succ _
 have below:∀b,b<s2.heap.objs.size->b≠H2.objs.size/\b≠s2.heap.objs.size:=λb hb=>⟨by rw[hC];exact aaN (acL hb),aaN hb⟩;have Lc:=λb o e=>Sz.extBut b o (below b (aaA e)).1 (aad _ (hH2▸aad _ e));have rB:h₁.PlainList _ #[]:=⟨_,Sz.extBut _ _ Wt (aad _ (hH2▸aam _ rfl))⟩;have X7:∀b∈fp,b<s2.heap.objs.size:=λb hb=>by
  obtain⟨o,e,_⟩:=T.obj _ _ lN b hb;exact aaA e
 generalize hCg:H2.objs.size=C at *;generalize hAg:s2.heap.objs.size=cD at *
 let Y:rG:=⟨C,s2,H,fp,pins,cl⟩
 have ok:(fY X scope N Y).Ok:=by
  refine⟨I.ok.mod,S.kind,I.ok.glob,I.ok.blt,?_,λx y c e1 e2=>I.ok.inj x y c (c1 x c e1) (c1 y c e2),λx hx=>c2 x (mW S.nocell hx),λx c e=>(by cases e),I.ok.hd,I.ok.frames,.inl rfl,λb hb=>⟨?_,λx c e=>?_⟩,I.bs,aaR I.ok.bsz I.sz,λb o e hb=>?_,λb hb hf=>?_,I.stack,I.stkFree⟩
  ·rw[hAg];exact ND
  ·exact (below b (X7 b hb)).1
  ·exact (f2 b hb).2.2.2.2.1 x c (c1 x c e)
  ·rcases (f2 b hb).2.2.2.1 with z|z
   ·exact I.ok.noex b o e z
   ·exact absurd (aa_ (aaA (I.ok.bs b o e).1) z) (acr _)
  ·rcases aaw.mp (I.stkSub b hf) with z|z
   ·exact (f2 b hb).2.1 z
   ·exact (f2 b hb).2.2.1 z
 have X8:∀x c,X.env.cells.lookup x=some c->c<cD:=λx c e=>by
  obtain⟨v,q⟩:=I.cell x c e;rw[←hAg];exact q.lt
 have Px:∀p∈X.pn++pins,p.1<cD:=λp hp=>by rw[←hAg];exact aaA (I.pin p hp).1
 have VH:∀b∈vJ X.stack,b<cD:=λb hb=>by
  obtain⟨_,o,ho,_⟩:=I.stack.mem hb;rw[←hAg];exact aaA ho
 have VI:∀p∈X.pn++pins,p.1∉vJ X.stack:=λp hp hf=>by
  rcases aaw.mp (I.stkSub _ hf) with z|z
  ·exact (I.pin p hp).2.2.1 z
  ·exact (I.pin p hp).2.2.2.1 z
 have EC:H cD=none:=by rw[←hAg];exact I.hok.fresh (aao _)
 have ZO:=I.hok.fresh (by rw[hAg];exact ND);have I4:∀tk ,aE _ [] (CM js σ) H {s2 with heap:=h₁,toks:=tk}:=λtk=>by
  refine⟨ok,rfl,I.bare,Un.kept Lc,⟨_,VG,λi x v e1 e2 e3=>?_⟩,λx c e=>?_,ZO,λx c e=>I.freeC x c (c1 x c e),λp hp=>?_,I.hok.kept Lc,?_⟩
  ·
   have SA:=e2;unfold CM at SA;rw[aar] at SA;cases hj:js[i]? with
   |none=>rw[hj] at SA;cases SA
   |some o=>
    rw[hj] at SA;cases o with
    |none=>cases SA
    |some j=>
     have e4:(match σ[j]? with|some v=>v|none=>none)=some v:=aaX SA;obtain⟨nx,fr⟩:=S.cap i j x hj e1;have e5:σ[j]? = some (some v):=by
      cases q:σ[j]? with
      |none=>rw[q] at e4;cases e4
      |some z=>rw[q] at e4;rw[show z=some v from e4]
     obtain⟨m,hn,hl⟩:=I.loc;have kx:X.env.scope.names.lookup x=some .cell\/X.env.scope.names.lookup x=some .free:=by rw[lC];exact S.free x (abG fr)
     obtain⟨u,r,lk⟩:=hl j x v nx e5 (.inr kx);refine⟨u,r,.inr ⟨d9 fr,?_⟩⟩;obtain⟨c,hcl⟩:=c2 x (abG fr);rcases lk with⟨k,_⟩|⟨k,c',e',z⟩
     ·have k':X.env.scope.names.lookup x=some .local:=k;rcases kx with q|q<;>· rw[q] at k';cases k'
     ·have:=by
       have:=c1 x c hcl;rw[e'] at this;exact aaX this
      subst this;obtain⟨o,ho,hd⟩:=z;exact⟨c',hcl,o,Lc _ _ ho,hd⟩
  ·obtain⟨v,o,ho,hd⟩:=I.cell x c (c1 x c e);exact⟨v,o,Lc _ _ ho,hd⟩
  ·have Ld:p∈X.pn++pins:=by simpa using hp
   obtain⟨q1,q2,q3,q4,q5⟩:=I.pin p Ld;exact⟨Lc _ _ q1,q2,λz=>absurd (Px p Ld) (by rw[z];exact Nat.not_lt.mpr ND),VI p Ld,q5⟩
  ·unfold CM;rw[aab];exact S.len
 obtain⟨hg,ht,he⟩:=yL Y;obtain⟨W,⟨m0,w0⟩,turn⟩:=h Y;have X9:∀{H':Hp} {pl:List _},H' cD=none->(∀p∈pl,p.1≠cD)->qQ (fY X scope N Y) pl H' cD:=λ{H' pl} hn hp=>by
  refine⟨hn,Wt,λz=>absurd (VH _ z) (acr _),.inr (by rw[hAg];exact aao _),λx c e=>aaN (X8 x c (c1 x c e)),λp Ld=>?_⟩;rcases aaQ.mp Ld with z|z
  ·exact aaN (Px p z)
  ·exact hp p z
 have X_:∀{H':Hp} {pl:List _},(∀b∈fp,H' b=none)->(∀p∈pl,p.1∉fp)->∀b∈fp,qQ (fY X scope N Y) pl H' b:=λ{H' pl} hn hp b hb=>by
  refine⟨hn b hb,(below b (X7 b hb)).1,λz=>?_,.inl hb,λx c e=>(f2 b hb).2.2.2.2.1 x c (c1 x c e),λp Ld=>?_⟩
  ·rcases aaw.mp (I.stkSub b z) with q|q
   ·exact (f2 b hb).2.1 q
   ·exact (f2 b hb).2.2.1 q
  ·rcases aaQ.mp Ld with z|z
   ·exact (f2 b hb).2.2.2.2.2 p z
   ·exact λe=>hp p z (by rw[e];exact hb)
 have Y3:cD∉fp:=λz=>absurd (X7 cD z) (by intro q;exact acr _ q);have Ya:∀{i:Nat} {x:Str} {v:V},N[i]? = some x->(CM js σ)[i]? = some (some v)->∃u c o,aL v u/\scope.names.lookup x=some .free/\cl.lookup x=some c/\s2.heap.get? c=some o/\o.data=.cell (some u):=λ{i x v} e1 e2=>by
  unfold CM at e2;rw[aar] at e2;cases hj:js[i]? with
  |none=>rw[hj] at e2;cases e2
  |some o=>
   rw[hj] at e2;cases o with
   |none=>cases e2
   |some j=>
    have e4:(match σ[j]? with|some v=>v|none=>none)=some v:=aaX e2;obtain⟨nx,fr⟩:=S.cap i j x hj e1;have e5:σ[j]? = some (some v):=by
     cases q:σ[j]? with
     |none=>rw[q] at e4;cases e4
     |some z=>rw[q] at e4;rw[show z=some v from e4]
    obtain⟨m,hn,hl⟩:=I.loc;have kx:X.env.scope.names.lookup x=some .cell\/X.env.scope.names.lookup x=some .free:=by rw[lC];exact S.free x (abG fr)
    obtain⟨u,r,lk⟩:=hl j x v nx e5 (.inr kx);obtain⟨c,hcl⟩:=c2 x (abG fr);rcases lk with⟨k,_⟩|⟨k,c',e',z⟩
    ·have k':X.env.scope.names.lookup x=some .local:=k;rcases kx with q|q<;>· rw[q] at k';cases k'
    ·have:=by
      have:=c1 x c hcl;rw[e'] at this;exact aaX this
     subst this;obtain⟨o,ho,hd⟩:=z;exact⟨u,c',o,r,fr,hcl,ho,hd⟩
 have back:∀{pl:List _} {σ':St} {H':Hp} {s':aaD},aE _ pl σ' H' s'->aE (fY X scope N Y) pl _ H' s':=λ{pl σ' H' s'} K=>by
  refine⟨K.ok,K.os,K.bare,K.base,?_,K.cell,K.free,K.freeC,K.pin,K.hok,?_⟩
  ·obtain⟨m,hn,_⟩:=K.loc;refine⟨m,hn,λi x v e1 e2 e3=>?_⟩;obtain⟨u,c,o,r,fr,hcl,ho,hd⟩:=Ya e1 e2;refine⟨u,r,.inr ⟨d9 fr,c,hcl,?_⟩⟩;obtain⟨sl,q⟩:=K.base.any ho (I.freeC x c (c1 x c hcl)) λz=>(f2 c z).2.2.2.2.1 x c (c1 x c hcl) rfl;exact⟨_,q,hd⟩
  ·unfold CM;rw[aab];exact S.len
 have loop:∀tk ,codeAny (aa1 X.prog X.w) X.A (.compLoop (.ListComp elt [⟨tg,iter,vG,0⟩] scope pos) 0 (.ref it) (.ref cD) (compEnvC scope cl C X.env)) (RR (.ref cD) C) {s2 with heap:=h₁,toks:=tk}:=by
  intro tk;refine ka (λn s'=>∃(i:Nat) (ys:List V) (aD:List aak) (H':Hp),aE _ [] _ H' s'/\tn i s'.heap/\(∀b∈fp,H' b=none)/\H' cD=none/\s'.heap.PlainList cD aD.toArray/\aV ys aD/\ys.length<=aah/\W i n ys H') ?_ m0
   ⟨0,[],[],H,I4 tk,T.keep _ _ _ lN (λb hb o e=>Lc b o e),λb hb=>(f2 b hb).1,EC,rB,.nil,acM _,w0⟩
  rintro n s3 ⟨i,ys,aD,H3,I3,Le,fr3,na3,⟨nn,ea⟩,rv3,hz3,w3⟩;have SD:∀p∈[(cD,({cls:=.type "list",data:=.seq aD.toArray nn}:Obj))],p.1∉fp:=λp hp=>by
   have e:=by simpa using hp
   rw[e];exact Y3
  have Ip:aE _ [(cD,({cls:=.type "list",data:=.seq _ nn}:Obj))] _ H3 s3:=I3.pins_of λp hp=>by
   have e:=by simpa using hp
   subst e;exact⟨ea,na3,Wt,λz=>absurd (VH _ z) (acr _),λv z=>by cases z⟩
  rcases turn i n ys H3 w3 with⟨stop,p⟩|⟨go,CA,Nx,hNx,step⟩
  ·refine abk (T.done (fY X scope N Y) rfl rfl rfl hc i _ s3 _ H3 _ Ip (X_ fr3 SD) Le stop) (λr s4 ZP=>?_) λ_ _ z=>z;obtain⟨hr,J4⟩:=ZP;subst hr;have pa:=(J4.pin _ (aaU _ aal)).1;have u:Un _ fp H (cT H3 cD (.lst ys)) s2.heap s4.heap:=
    ⟨J4.base.keep,J4.base.slot,λb o e nb hx=>by rw[aI (below b (by rw[←hAg];exact aaA e)).2];exact J4.base.free b o e nb hx,J4.base.there,
     λb xs e=>by rw[aI (bX e EC)];exact J4.base.tups b xs e,λb o w' e=>by rw[aI (bX e EC)];exact J4.base.frzs b o w' e,λb ps e=>by rw[aI (bX e EC)];exact J4.base.tbls b ps e⟩
   have hok:jn X.prog X.w (cT H3 cD (.lst ys)) s4.heap:=λb o e=>by
    by_cases hb:b=cD
    ·subst hb;rw[bj] at e;cases e;exact⟨hz3,aD,nn,rv3,pa⟩
    ·rw[aI hb] at e;refine (J4.hok b o e).stay (λ_ _ _ q=>q) (λc q=>?_) λc xs q=>?_
     ·rw[aI (bX q na3)];exact q
     ·rw[aI (bX q na3)];exact q
   have Yb:=I.call' J4.os u hok J4.bare λb hb=>⟨(f2 b hb).2.2.2.1,(f2 b hb).2.1,(f2 b hb).2.2.2.2.1,(f2 b hb).2.2.2.2.2⟩;have ZQ:∃m,s4.heap.Ns C m:=by obtain⟨m,hn,_⟩:=J4.loc;exact⟨m,hn⟩
   exact hR cD C ys H3 s4 Yb ZQ (I.fpOk (by rw[hAg];exact ND) (by rw[aI (Ne.symm Wt)];exact J4.free)) na3 p
  ·refine abk (T.item (fY X scope N Y) rfl rfl rfl hc i _ s3 _ H3 _ Ip (X_ fr3 SD) Le go) (λr s4 h4=>?_) λ_ _ z=>z;obtain⟨u,hr,h4⟩:=h4;subst hr;refine abk h4 (λ_ s5 h5=>?_) λ_ _ z=>z;obtain⟨x,H5,I5,r5,y5,st5,fr5⟩:=h5;have X0:=I5.pinned (X_ fr5 SD) (T.obj _ _ st5);refine abk (hg _ s5 _ H5 x u _ X0 r5 (step x H5 y5)) (λ_ s6 h6=>?_) λ_ _ z=>z;obtain⟨σ6,H6,I6,q6⟩:=h6;refine abk (ht _ s6 σ6 H6 _ I6 q6) (λb s7 h7=>?_) λ_ _ z=>z;obtain⟨H7,I7,q7⟩:=h7;have VJ:∀{H8:Hp} {σ8:St} {s8:aaD},aE (fY X scope N Y) ([(cD,({cls:=.type "list",data:=.seq aD.toArray nn}:Obj))]++xa fp s5.heap) σ8 H8 s8->
     s8.heap.get? cD=some _/\H8 cD=none/\(∀b∈fp,H8 b=none)/\(∀b∈fp,∀o,s5.heap.get? b=some o->s8.heap.get? b=some o):=λ{H8 σ8 s8} K=>by
    have q:=K.pin _ (aaU _ (abX _ aal));refine⟨q.1,q.2.1,λb hb=>?_,λb hb o e=>(K.pin (b,o) (aaU _ (aaU _ (jq hb e)))).1⟩;obtain⟨o,e,d⟩:=T.obj _ _ st5 b hb;exact (K.pin (b,o) (aaU _ (aaU _ (jq hb e)))).2.1
   have KS:∀{H8:Hp} {σ8:St} {s8:aaD} {pl:List _},aE _ pl σ8 H8 s8->aE (fY X scope N Y) [] σ8 H8 s8:=λK=>K.pins_of λp hp=>absurd hp (by simp);cases b with
   |false=>
    obtain⟨m',hm,w7⟩:=hNx _ _ q7;obtain⟨p1,p2,p3,p4⟩:=VJ I7;exact⟨m',hm,i+1,ys,aD,H7,back (KS I7),T.keep _ _ _ st5 p4,p3,p2,⟨nn,p1⟩,rv3,hz3,w7⟩
   |true=>
    refine abk (he _ s7 σ6 H7 _ I7 q7) (λv s8 h8=>?_) λ_ _ z=>z;obtain⟨y,H8,I8,r8,q8⟩:=h8;obtain⟨m',hm,w8⟩:=hNx _ _ q8;obtain⟨p1,p2,p3,p4⟩:=VJ I8;refine wpAny_list_append_plain ⟨nn,p1⟩ (λh' ZR sb=>?_) (by rw[aax,←rv3.length];exact hz3);obtain⟨f0,f1,f2',f3,f4,f5⟩:=X9 (pl:=[]) p2 (by simp);have I9:=(KS I8).turned (t':=s8.toks) (λb o hb e=>(sb.2 b hb).trans e) f0 f1 f3 f4 f5;refine⟨m',hm,i+1,ys++[y],aD++[v],H8,back I9,T.keep _ _ _ st5 (λb hb o e=>(sb.2 b (λz=>Y3 (z▸hb))).trans (p4 b hb o e)),p3,p2,?_,rv3.append (.cons r8 .nil),?_,w8⟩
    ·rw[show (aD++[v]).toArray=aD.toArray.push v from by simp];exact ZR
    ·rw[aaj];exact CA
 exact codeAny_compStart_list (loop _) (T.self _ _ _ _ _ (T.keep _ _ _ lN (λb hb o e=>Lc b o e)) (loop _))
def sC {lx:afV}(I:aE X pins σ H s)(S:mV lx X.N scope N js)(lC:X.env.scope=lx) :
  ∃cl:List (Str×aaM),closureFor scope X.env=pure cl/\(∀x c,cl.lookup x=some c->X.env.cells.lookup x=some c)/\∀x,(x,NameKind.free)∈scope.names->∃c,cl.lookup x=some c:=
 Bl λx hx=>I.ok.has x (by
  have:=S.free x hx;rw[←lC] at this;exact this)
theorem NP {g:rG->TG}{tt:rG->TT}{te:rG->TE}(lx:afV)(NX N:List Str)(js:List (Option Nat))(hc:X.calm=true)(hi:PI X tg iter wi)(yL:∀Y:rG,PG (fY X scope N Y) tg (g Y)/\EU (fY X scope N Y) vG (tt Y)/\PE (fY X scope N Y) elt (te Y))(lC:X.env.scope=lx:=by rfl)(NF:X.N=NX:=by rfl)(hS:vh lx NX scope N js=true:=by decide+kernel)(hs:∀x,acj iter X.env x=pure x:=by intro _;rfl):PE X (.ListComp elt [⟨tg,iter,vG,0⟩] scope pos) (V3 wi js g tt te):=by
 intro pins s σ H Q I h;have S:mV lx X.N scope N js:=by rw[NF];exact vh.to hS
 obtain⟨cl,e1,e2,e3⟩:=sC I S lC;refine wpAny_comprehension_free rfl hs e1 S.kind S.loc (dE (hi pins s σ H _ I h) λv s1 h1=>dE h1 λWr s2 h2=>?_);obtain⟨it,fp,tn,J,H2,e,I2,T,lN,f2,q⟩:=h2;subst e;refine sA I2 hc T lN f2 yL S lC e2 e3 q ?_;intro cD C ys H' s' I' ns fC na p;obtain⟨m,hn⟩:=ns;obtain⟨f0,f1,f2',f3,f4,f5⟩:=fC;exact⟨m,hn,λh' sb=>⟨.ref cD,_,I'.turned (λb o hb e=>(sb.2 b hb).trans e) f0 f1 f3 f4 f5,rfl,p cD na⟩⟩
theorem GY {oK u5:Pos}{g:rG->TG}{tt:rG->TT}{te:rG->TE}(lx:afV)(NX N:List Str)(js:List (Option Nat))(hN:X.N.Nodup)(hx:X.N[i]? = some x)(hl:Gv X.env.scope x)(hc:X.calm=true)(hi:PI X tg iter wi)(yL:∀Y:rG,PG (fY X scope N Y) tg (g Y)/\EU (fY X scope N Y) vG (tt Y)/\PE (fY X scope N Y) elt (te Y))(lC:X.env.scope=lx:=by rfl)(NF:X.N=NX:=by rfl)(hS:vh lx NX scope N js=true:=by decide+kernel)(hw:ado (.ListComp elt [⟨tg,iter,vG,0⟩] scope u5) (some (.Name x oK)) pos.line X.env=pure true:=by rfl)(hf:X.fn x=true\/X.env.scope.names.lookup x=some .local:=by first|exact .inl rfl|exact .inr rfl|assumption)(hs:∀x,acj iter X.env x=pure x:=by intro _;rfl) :
  PS X (.Assign [.Name x oK] (.ListComp elt [⟨tg,iter,vG,0⟩] scope u5) pos) (Gz (V3 wi js g tt te) (yU i)):=by
 intro pins s σ H D I h;have S:mV lx X.N scope N js:=by rw[NF];exact vh.to hS
 obtain⟨cl,e1,e2,e3⟩:=sC I S lC;rw[exec_Assign_Name_used _ _ _ _ hw];refine aaa (wpAny_standAt (aaa ?_));refine aaa (abk (wpAny_comprehension_free rfl hs e1 S.kind S.loc
  (dE (hi pins s σ H _ I h) λv s1 h1=>dE h1 λWr s2 h2=>?_)) (λ_ s' hq=>aae (aae hq)) λ_ _ e=>e)
 obtain⟨it,fp,tn,J,H2,e,I2,T,lN,f2,q⟩:=h2;subst e;refine sA I2 hc T lN f2 yL S lC e2 e3 q ?_;intro cD C ys H' s' I' ns fC na p;obtain⟨m,hn⟩:=ns;obtain⟨f0,f1,f2',f3,f4,f5⟩:=fC;refine wpAny_assign_Name (vK I' hN hx hl (v:=.ref cD) rfl (λSu ZS ZT=>?_) hf);obtain⟨a,sb,ha⟩:=ZT;have aC:C≠a:=by
  rcases ha with ha|ha
  ·rw[ha];exact f1
  ·exact λz=>f4 x a ha z.symm
 refine⟨m,hn.sameBut sb aC,λh' ZU=>⟨_,_,ZS.turned (λb o hb e=>(ZU.2 b hb).trans e) f0 f1 f3 f4 f5,?_⟩⟩;exact p cD na
def T4 (J:It)(g:TG)(tb:TS)(D:oP)(σ:St)(H1:Hp):Prop:=∃W:Nat->Nat->St->Hp->Prop,(∃m,W 0 m σ H1)/\∀i m σ H,W i m σ H->
 (J.stop i H/\D.nx σ H)\/(J.go i H/\∃N:St->Hp->Prop,(∀σ' H',N σ' H'->∃m',m'<m/\W (i+1) m' σ' H')/\∀x H',J.yld i H x H'->g x σ H' λσ2 H2=>tb {D with nx:=N,ct:=N,bk:=D.nx} σ2 H2)
def T5 (wi:TI)(g:TG)(tb:TS):TS:=λD σ H=>wi σ H λJ H1=>T4 J g tb D σ H1
def LH {g:TG}(hp:agc (aa1 X.prog X.w) X.A X.env X.xe)(hc:X.calm=true)(hi:PI X tg iter wi)(hg:PG X tg g)(hb:vc X body tb)(hs:∀x,acj iter X.env x=pure x:=by intro _;rfl):PS X (.For tg iter body [] pos) (T5 wi g tb):=Qa hp hc hi hg hb hs
end L2
namespace L2
inductive D where
 |non|bl (b:Bool)|int (i:Int)|str (x:Str)|tup (xs:List D)|lst (xs:List D)
instance:Inhabited D:=⟨.non⟩
mutual
def iG (K:aai)(H:Hp):D->V->Prop
 | .non,v=>v=.non
 | .bl b,v=>v=.bl b
 | .int i,v=>v=.int i
 | .str x,v=>v=.str x
 | .tup ds,v=>∃a xs,v=.ref a/\gr K H a xs/\fD K H ds xs
 | .lst ds,v=>∃a xs,v=.ref a/\fX K H a xs/\fD K H ds xs
def fD (K:aai)(H:Hp):List D->List V->Prop
 | [],xs=>xs=[]
 |d::ds,xs=>∃x r,xs=x::r/\iG K H d x/\fD K H ds r
end
mutual
noncomputable def iQ:D->D->Bool
 | .non,.non=>true
 | .bl a,.bl b=>a==b
 | .bl a,.int b=>(if a then 1 else 0)==b
 | .int a,.bl b=>a==(if b then 1 else 0)
 | .int a,.int b=>a==b
 | .str a,.str b=>a==b
 | .tup xs,.tup ys=>ju xs ys
 | .lst xs,.lst ys=>ju xs ys
 |_,_=>false
noncomputable def ju:List D->List D->Bool
 | [],[]=>true
 |x::xs,y::ys=>iQ x y&&ju xs ys
 |_,_=>false
end
mutual
noncomputable def eB:D->Nat
 | .tup xs=>iH xs+1
 | .lst xs=>iH xs+1
 |_=>0
noncomputable def iH:List D->Nat
 | []=>0
 |x::xs=>max (eB x) (iH xs)
end
theorem fD.length {K:aai}{H:Hp}:∀{ds:List D} {xs:List V},fD K H ds xs->ds.length=xs.length
 | [],_,h=>by subst h;rfl
 |d::ds,_,h=>by
  obtain⟨x,r,rfl,_,q⟩:=h;rw[aat,aat,fD.length q]
theorem fD.get {K:aai}{H:Hp}:∀{ds:List D} {xs:List V} {i:Nat} {d:D} {x:V},fD K H ds xs->ds[i]? = some d->xs[i]? = some x->iG K H d x
 | [],_,_,_,_,_,e,_=>by simp at e
 |d::ds,_,i,d',x',h,e1,e2=>by
  obtain⟨x,r,rfl,p,q⟩:=h;cases i with
  |zero=>simp at e1 e2;subst e1 e2;exact p
  |succ i=>exact fD.get q (by simpa using e1) (by simpa using e2)
theorem kO:∀{ds:List D} {i:Nat} {d:D},ds[i]? = some d->eB d<=iH ds
 | [],_,_,e=>by simp at e
 |d::ds,i,d',e=>by
  cases i with
  |zero=>simp at e;subst e;exact Nat.le_max_left _ _
  |succ i=>exact aaR (kO (by simpa using e)) (Nat.le_max_right _ _)
noncomputable def mX (xs ys:List D)(j:Nat):Bool:=match xs[j]?,ys[j]? with
 |some a,some b=>iQ a b
 |_,_=>true
theorem i6:∀(xs ys:List D),((aa7 (min xs.length ys.length)).all (mX xs ys)&&xs.length==ys.length)=ju xs ys
 | [],[]=>by simp[ju]
 | [],_::_=>by simp[ju]
 |_::_,[]=>by simp[ju]
 |x::xs,y::ys=>by
  have ih:=i6 xs ys;unfold ju;rw[←ih,aat,aat,Nat.add_min_add_right,List.range_succ_eq_map,abT,aeq];have e0:mX (x::xs) (y::ys) 0=iQ x y:=rfl;have e1:(mX (x::xs) (y::ys)∘Nat.succ)=mX xs ys:=by funext j;simp[mX]
  rw[e0,e1,Bool.and_assoc];simp
def za {xs ys:List D}(h:xs.length≠ys.length):ju xs ys=false:=by
 rw[←i6,show (xs.length==ys.length)=false from by simpa using h,Bool.and_false]
mutual
theorem sD:∀d:D,iQ d d=true
 | .non=>rfl
 | .bl b=>by unfold iQ;simp
 | .int b=>by unfold iQ;simp
 | .str b=>by unfold iQ;simp
 | .tup xs=>by unfold iQ;exact oU xs
 | .lst xs=>by unfold iQ;exact oU xs
theorem oU:∀ds:List D,ju ds ds=true
 | []=>rfl
 |d::ds=>by unfold ju;rw[sD d,oU ds];rfl
end
theorem T6 {ys:List V}(I:aE X pins σ H s)(h:fX X.K H a xs)(h':gr X.K H a ys):False:=by
 obtain⟨aD,_,p,_⟩:=I.list h;obtain⟨rA,_,q,_⟩:=I.tuple h';exact absurd rfl (SeqAt.ne_of_list_tuple p.isList q)
theorem sE (I:aE X pins σ H s):∀n d1 d2 x,eB d1<=n->iG X.K H d1 x->iG X.K H d2 x->iQ d1 d2=true:=by
 have lists:∀n,(∀d1 d2 x,eB d1<=n->iG X.K H d1 x->iG X.K H d2 x->iQ d1 d2=true)->∀(ds es:List D) (xs:List V),iH ds<=n->fD X.K H ds xs->fD X.K H es xs->ju ds es=true:=by
  intro n ih ds
  induction ds with
  |nil=>
   intro es xs _ h1 h2;subst h1;cases es with
   |nil=>rfl
   |cons e es=>obtain⟨x,r,e',_⟩:=h2;cases e'
  |cons d ds ihd=>
   intro es xs hd h1 h2;obtain⟨x,r,rfl,p,q⟩:=h1;cases es with
   |nil=>cases h2
   |cons e es=>
    obtain⟨x',r',e',p',q'⟩:=h2;cases e';unfold ju;rw[ih d e x (aaR (Nat.le_max_left _ _) hd) p p',ihd es r (aaR (Nat.le_max_right _ _) hd) q q'];rfl
 intro n
 induction n with
 |zero=>
  intro d1 d2 x hd h1 h2;have fl:∀d,iG X.K H d x->(∃a,x=.ref a)\/(d=.non/\x=.non)\/(∃b,d=.bl b/\x=.bl b)\/(∃b,d=.int b/\x=.int b)\/∃b,d=.str b/\x=.str b:=λd h=>by
   cases d with
   |non=>exact .inr (.inl ⟨rfl,h⟩)
   |bl b=>exact .inr (.inr (.inl ⟨b,rfl,h⟩))
   |int b=>exact .inr (.inr (.inr (.inl ⟨b,rfl,h⟩)))
   |str b=>exact .inr (.inr (.inr (.inr ⟨b,rfl,h⟩)))
   |tup ds=>obtain⟨a,_,e,_⟩:=h;exact .inl ⟨a,e⟩
   |lst ds=>obtain⟨a,_,e,_⟩:=h;exact .inl ⟨a,e⟩
  have nr:¬∃a,x=.ref a:=λh00=>by
   obtain⟨a,e⟩:=h00;subst e;cases d1 with
   |tup ds=>unfold eB at hd;lia
   |lst ds=>unfold eB at hd;lia
   |_=>cases h1
  have f1:=fl d1 h1;have f2:=fl d2 h2;rcases f1 with f1|⟨rfl,rfl⟩|⟨b,rfl,rfl⟩|⟨b,rfl,rfl⟩|⟨b,rfl,rfl⟩
  ·exact absurd f1 nr
  all_goals
   rcases f2 with f2|⟨rfl,f2⟩|⟨c,rfl,f2⟩|⟨c,rfl,f2⟩|⟨c,rfl,f2⟩
   ·exact absurd f2 nr
   all_goals first|(cases f2;exact sD _)|cases f2
 |succ n ih=>
  intro d1 d2 x hd h1 h2;cases d1 with
  |tup ds=>
   obtain⟨a,xs,rfl,hs,hr⟩:=h1;cases d2 with
   |tup es=>
    obtain⟨a',xs',e,oN,hr'⟩:=h2;cases e;have:=I.tuple_inj hs oN;subst this;exact lists n ih ds es xs (by unfold eB at hd;lia) hr hr'
   |lst es=>
    obtain⟨a',xs',e,oN,hr'⟩:=h2;cases e;exact (T6 I oN hs).elim
   |_=>cases h2
  |lst ds=>
   obtain⟨a,xs,rfl,hs,hr⟩:=h1;cases d2 with
   |lst es=>
    obtain⟨a',xs',e,oN,hr'⟩:=h2;cases e;have:=I.list_inj hs oN;subst this;exact lists n ih ds es xs (by unfold eB at hd;lia) hr hr'
   |tup es=>
    obtain⟨a',xs',e,oN,hr'⟩:=h2;cases e;exact (T6 I hs oN).elim
   |_=>cases h2
  |_=>exact ih _ d2 x (by exact acM _) h1 h2
inductive Qu (K:aai)(H:Hp)(s:aaD):D->V->aak->Prop
 |non:Qu K H s .non .non .none
 |bl (b:Bool):Qu K H s (.bl b) (.bl b) (.bool b)
 |int (i:Int) (t:Tok):Qu K H s (.int i) (.int i) (.int i t)
 |str (x:Str) (t:Tok):Qu K H s (.str x) (.str x) (.str x t)
 |tup {ds:List D} {a:aaM} {xs:List V} {aD:List aak} (hs:gr K H a xs) (hr:fD K H ds xs) (rv:aV xs aD) (p:IsTup s.heap a aD.toArray):Qu K H s (.tup ds) (.ref a) (.ref a)
 |lst {ds:List D} {a:aaM} {xs:List V} {aD:List aak} (hs:fX K H a xs) (hr:fD K H ds xs) (rv:aV xs aD) (p:s.heap.IsList a aD.toArray):Qu K H s (.lst ds) (.ref a) (.ref a)
theorem SW (I:aE X pins σ H s):∀{d:D} {x:V} {u:aak},iG X.K H d x->aL x u->Qu X.K H s d x u:=by
 intro d x u h r;cases d<;>unfold iG at h
 case tup=>obtain⟨a,xs,rfl,hs,hr⟩:=h;cases r;obtain⟨aD,rv,p,_⟩:=I.tuple hs;exact .tup hs hr rv p
 case lst=>obtain⟨a,xs,rfl,hs,hr⟩:=h;cases r;obtain⟨aD,rv,p,_⟩:=I.list hs;exact .lst hs hr rv p.isList
 all_goals subst h
 case non=>cases r;exact .non
 case bl=>cases r;exact .bl _
 case int=>obtain⟨t,rfl⟩:=r;exact .int _ _
 case str=>obtain⟨t,rfl⟩:=r;exact .str _ _
section
variable {A:aba}{ds es:List D}{KU KW:List V}{i1 i2:List aak}
theorem vT (v1:aV KU i1)(v2:aV KW i2)(r1:fD X.K H ds KU)(r2:fD X.K H es KW)(f:∀(j:Nat) (d e:D) (x y:V) (u v:aak),ds[j]? = some d->iG X.K H d x->iG X.K H e y->aL x u->aL y v->adu A s u v (iQ d e)) :
  ∀j (h1:j<i1.toArray.size) (h2:j<i2.toArray.size),adu A s i1.toArray[j] i2.toArray[j] (mX ds es j):=λj g1 g2=>by
 have l1:=v1.length;have l2:=v2.length;have k1:=r1.length;have k2:=r2.length;rw[aax] at g1 g2;have q1:ds[j]? = some _:=aac (by lia);have q2:es[j]? = some _:=aac (by lia);have e1:KU[j]? = some _:=aac (by lia);have e2:KW[j]? = some _:=aac (by lia);obtain⟨u1,z1,w1⟩:=v1.get e1;obtain⟨u2,z2,w2⟩:=v2.get e2;have y1:i1.toArray[j]=u1:=by obtain⟨_,q⟩:=aap.mp z1;simpa using q
 have y2:i2.toArray[j]=u2:=by obtain⟨_,q⟩:=aap.mp z2;simpa using q
 have:mX ds es j=iQ ds[j] es[j]:=by unfold mX;rw[q1,q2]
 rw[y1,y2,this];exact f j _ _ _ _ _ _ q1 (r1.get q1 e1) (r2.get q2 e2) w1 w2
variable (v1:aV KU i1)(v2:aV KW i2)(r1:fD X.K H ds KU)(r2:fD X.K H es KW)(hu:A.units<abI)(he:∀j (h1:j<i1.toArray.size) (h2:j<i2.toArray.size),adu A.in1 s i1.toArray[j] i2.toArray[j] (mX ds es j))
include v1 v2 r1 r2 hu he
theorem vU:i1.toArray.size=ds.length/\i2.toArray.size=es.length:=by rw[aax,aax,←v1.length,←v2.length,r1.length,r2.length];exact⟨rfl,rfl⟩
theorem GZ (p1:IsTup s.heap a1 i1.toArray)(p2:IsTup s.heap a2 i2.toArray):SeqAt.RcAt A s (.ref a1) (.ref a2) (iQ (.tup ds) (.tup es)):=by
 have q:=SeqAt.RcAt.tuples p1 p2 hu he;rw[(vU v1 v2 r1 r2 hu he).1,(vU v1 v2 r1 r2 hu he).2,i6] at q;exact q
theorem G1 (p1:IsTup s.heap a1 i1.toArray)(p2:IsTup s.heap a2 i2.toArray):agf A s (.ref a1) (.ref a2) (!iQ (.tup ds) (.tup es)):=by
 have q:=SeqAt.RcNeAt.tuples p1 p2 hu he;rw[(vU v1 v2 r1 r2 hu he).1,(vU v1 v2 r1 r2 hu he).2,i6] at q;exact q
theorem G2 (p1:s.heap.IsList a1 i1.toArray)(p2:s.heap.IsList a2 i2.toArray):SeqAt.RcAt A s (.ref a1) (.ref a2) (iQ (.lst ds) (.lst es)):=by
 obtain⟨l1,l2⟩:=vU v1 v2 r1 r2 hu he;unfold iQ;by_cases hl:ds.length=es.length
 ·have q:=SeqAt.RcAt.lists p1 p2 (by rw[l1,l2,hl]) hu he;have z:=i6 ds es;rw[hl,Nat.min_self,beq_self_eq_true,Bool.and_true] at z;rw[l1,hl,z] at q;exact q
 ·rw[za hl];exact SeqAt.RcAt.lists_lengths p1 p2 (by rw[l1,l2];simpa using hl) hu
theorem G3 (p1:s.heap.IsList a1 i1.toArray)(p2:s.heap.IsList a2 i2.toArray):agf A s (.ref a1) (.ref a2) (!iQ (.lst ds) (.lst es)):=by
 obtain⟨l1,l2⟩:=vU v1 v2 r1 r2 hu he;unfold iQ;by_cases hl:ds.length=es.length
 ·have q:=SeqAt.RcNeAt.lists p1 p2 (by rw[l1,l2,hl]) hu he;have z:=i6 ds es;rw[hl,Nat.min_self,beq_self_eq_true,Bool.and_true] at z;rw[l1,hl,z] at q;exact q
 ·rw[za hl];exact SeqAt.RcNeAt.lists_lengths p1 p2 (by rw[l1,l2];simpa using hl) hu
end
theorem Bm (I:aE X pins σ H s):∀(n:Nat) (d1 d2:D) (x y:V) (u v:aak) (A:aba),eB d1<=n->A.units+n<abI->iG X.K H d1 x->iG X.K H d2 y->aL x u->aL y v->adu A s u v (iQ d1 d2):=by
 intro n
 induction n using Nat.strongRecOn with|ind n ih=>
 intro d1 d2 x y u v A hd hu h1 h2 r1 r2;have eA:A.units<abI:=by lia
 have hi:∀{ds:List D} {j:Nat} {d e:D} {x y:V} {u v:aak},iH ds+1<=n->ds[j]? = some d->iG X.K H d x->iG X.K H e y->aL x u->aL y v->adu A.in1 s u v _:=λ{ds j d e x y u v} hn q a b c d'=>ih (n-1) (by lia) _ _ _ _ _ _ _ (by have:=kO q;lia) (by show A.units+1+(n-1)<abI;lia) a b c d';cases SW I h1 r1<;>cases SW I h2 r2
 ·exact afw _
 ·exact SeqAt.EqAt.none_bool _
 ·exact SeqAt.EqAt.none_int _ _
 ·exact SeqAt.EqAt.none_str _ _
 ·exact SeqAt.EqAt.none_tuple ‹_› eA
 ·exact SeqAt.EqAt.none_list ‹_› eA
 ·exact SeqAt.EqAt.bool_none _
 ·exact SeqAt.EqAt.bool_bool _ _
 ·exact SeqAt.EqAt.bool_int _ _ _
 ·exact SeqAt.EqAt.bool_str _ _ _
 ·exact SeqAt.EqAt.bool_tuple _ ‹_› eA
 ·exact SeqAt.EqAt.bool_list _ ‹_› eA
 ·exact SeqAt.EqAt.int_none _ _
 ·exact SeqAt.EqAt.int_bool _ _ _
 ·exact SeqAt.EqAt.int_int _ _ _ _
 ·exact SeqAt.EqAt.int_str _ _ _ _
 ·exact SeqAt.EqAt.int_tuple _ _ ‹_› eA
 ·exact SeqAt.EqAt.int_list _ _ ‹_› eA
 ·exact SeqAt.EqAt.str_none _ _
 ·exact SeqAt.EqAt.str_bool _ _ _
 ·exact SeqAt.EqAt.str_int _ _ _ _
 ·exact SeqAt.EqAt.str_str _ _ _ _
 ·exact SeqAt.EqAt.str_tuple _ _ ‹_› eA
 ·exact SeqAt.EqAt.str_list _ _ ‹_› eA
 ·exact SeqAt.EqAt.tuple_none ‹_› eA
 ·exact SeqAt.EqAt.tuple_bool _ ‹_› eA
 ·exact SeqAt.EqAt.tuple_int _ _ ‹_› eA
 ·exact SeqAt.EqAt.tuple_str _ _ ‹_› eA
 ·rename_i ds a1 KU i1 u6 A5 A6 p1 es a2 KW i2 qN vH wW p2;by_cases hab:a1=a2
  ·subst hab;rw[sE I n _ _ _ hd h1 h2];exact afw _
  ·exact afK hab (GZ A6 wW A5 vH eA (vT A6 wW A5 vH λ_ _ _ _ _ _ _ q=>hi (by unfold eB at hd;lia) q) p1 p2)
 ·exact SeqAt.EqAt.tuple_list ‹_› ‹_› eA
 ·exact SeqAt.EqAt.list_none ‹_› eA
 ·exact SeqAt.EqAt.list_bool _ ‹_› eA
 ·exact SeqAt.EqAt.list_int _ _ ‹_› eA
 ·exact SeqAt.EqAt.list_str _ _ ‹_› eA
 ·exact SeqAt.EqAt.list_tuple ‹_› ‹_› eA
 ·rename_i ds a1 KU i1 u6 A5 A6 p1 es a2 KW i2 qN vH wW p2;by_cases hab:a1=a2
  ·subst hab;rw[sE I n _ _ _ hd h1 h2];exact afw _
  ·exact afK hab (G2 A6 wW A5 vH eA (vT A6 wW A5 vH λ_ _ _ _ _ _ _ q=>hi (by unfold eB at hd;lia) q) p1 p2)
theorem Qv (I:aE X pins σ H s)(n:Nat)(d1 d2:D)(x y:V)(u v:aak)(A:aba)(hd:eB d1<=n)(hu:A.units+n<abI)(h1:iG X.K H d1 x)(h2:iG X.K H d2 y)(r1:aL x u)(r2:aL y v):SeqAt.RcAt A s u v (iQ d1 d2):=by
 have eA:A.units<abI:=by lia
 have hi:∀{ds:List D} {j:Nat} {d e:D} {x y:V} {u v:aak},iH ds+1<=n->ds[j]? = some d->iG X.K H d x->iG X.K H e y->aL x u->aL y v->adu A.in1 s u v _:=λ{ds j d e x y u v} hn q a b c d'=>Bm I (n-1) _ _ _ _ _ _ _ (by have:=kO q;lia) (by show A.units+1+(n-1)<abI;lia) a b c d';cases SW I h1 r1<;>cases SW I h2 r2
 ·exact SeqAt.RcAt.none_none
 ·exact SeqAt.RcAt.none_bool _
 ·exact SeqAt.RcAt.none_int _ _
 ·exact SeqAt.RcAt.none_str _ _
 ·exact SeqAt.RcAt.none_tuple ‹_› eA
 ·exact SeqAt.RcAt.none_list ‹_› eA
 ·exact SeqAt.RcAt.bool_none _
 ·exact SeqAt.RcAt.bool_bool _ _
 ·exact SeqAt.RcAt.bool_int _ _ _
 ·exact SeqAt.RcAt.bool_str _ _ _
 ·exact SeqAt.RcAt.bool_tuple _ ‹_› eA
 ·exact SeqAt.RcAt.bool_list _ ‹_› eA
 ·exact SeqAt.RcAt.int_none _ _
 ·exact SeqAt.RcAt.int_bool _ _ _
 ·exact SeqAt.RcAt.int_int _ _ _ _
 ·exact SeqAt.RcAt.int_str _ _ _ _
 ·exact SeqAt.RcAt.int_tuple _ _ ‹_› eA
 ·exact SeqAt.RcAt.int_list _ _ ‹_› eA
 ·exact SeqAt.RcAt.str_none _ _
 ·exact SeqAt.RcAt.str_bool _ _ _
 ·exact SeqAt.RcAt.str_int _ _ _ _
 ·exact SeqAt.RcAt.str_str _ _ _ _
 ·exact SeqAt.RcAt.str_tuple _ _ ‹_› eA
 ·exact SeqAt.RcAt.str_list _ _ ‹_› eA
 ·exact SeqAt.RcAt.tuple_none ‹_› eA
 ·exact SeqAt.RcAt.tuple_bool _ ‹_› eA
 ·exact SeqAt.RcAt.tuple_int _ _ ‹_› eA
 ·exact SeqAt.RcAt.tuple_str _ _ ‹_› eA
 ·rename_i ds a1 KU i1 u6 A5 A6 p1 es a2 KW i2 qN vH wW p2;exact GZ A6 wW A5 vH eA (vT A6 wW A5 vH λ_ _ _ _ _ _ _ q=>hi (by unfold eB at hd;lia) q) p1 p2
 ·exact SeqAt.RcAt.tuple_list ‹_› ‹_› eA
 ·exact SeqAt.RcAt.list_none ‹_› eA
 ·exact SeqAt.RcAt.list_bool _ ‹_› eA
 ·exact SeqAt.RcAt.list_int _ _ ‹_› eA
 ·exact SeqAt.RcAt.list_str _ _ ‹_› eA
 ·exact SeqAt.RcAt.list_tuple ‹_› ‹_› eA
 ·rename_i ds a1 KU i1 u6 A5 A6 p1 es a2 KW i2 qN vH wW p2;exact G2 A6 wW A5 vH eA (vT A6 wW A5 vH λ_ _ _ _ _ _ _ q=>hi (by unfold eB at hd;lia) q) p1 p2
theorem G4 (I:aE X pins σ H s)(n:Nat)(d1 d2:D)(x y:V)(u v:aak)(A:aba)(hd:eB d1<=n)(hu:A.units+n<abI)(h1:iG X.K H d1 x)(h2:iG X.K H d2 y)(r1:aL x u)(r2:aL y v):agf A s u v (!iQ d1 d2):=by
 have eA:A.units<abI:=by lia
 have hi:∀{ds:List D} {j:Nat} {d e:D} {x y:V} {u v:aak},iH ds+1<=n->ds[j]? = some d->iG X.K H d x->iG X.K H e y->aL x u->aL y v->adu _ s u v _:=λ{ds j d e x y u v} hn q a b c d'=>Bm I (n-1) _ _ _ _ _ _ A.in1 (by have:=kO q;lia) (by show A.units+1+(n-1)<abI;lia) a b c d';cases SW I h1 r1<;>cases SW I h2 r2
 ·exact SeqAt.RcNeAt.none_none
 ·exact SeqAt.RcNeAt.none_bool _
 ·exact SeqAt.RcNeAt.none_int _ _
 ·exact SeqAt.RcNeAt.none_str _ _
 ·exact SeqAt.RcNeAt.none_tuple ‹_› eA
 ·exact SeqAt.RcNeAt.none_list ‹_› eA
 ·exact SeqAt.RcNeAt.bool_none _
 ·exact SeqAt.RcNeAt.bool_bool _ _
 ·exact SeqAt.RcNeAt.bool_int _ _ _
 ·exact SeqAt.RcNeAt.bool_str _ _ _
 ·exact SeqAt.RcNeAt.bool_tuple _ ‹_› eA
 ·exact SeqAt.RcNeAt.bool_list _ ‹_› eA
 ·exact SeqAt.RcNeAt.int_none _ _
 ·exact SeqAt.RcNeAt.int_bool _ _ _
 ·exact SeqAt.RcNeAt.int_int _ _ _ _
 ·exact SeqAt.RcNeAt.int_str _ _ _ _
 ·exact SeqAt.RcNeAt.int_tuple _ _ ‹_› eA
 ·exact SeqAt.RcNeAt.int_list _ _ ‹_› eA
 ·exact SeqAt.RcNeAt.str_none _ _
 ·exact SeqAt.RcNeAt.str_bool _ _ _
 ·exact SeqAt.RcNeAt.str_int _ _ _ _
 ·exact SeqAt.RcNeAt.str_str _ _ _ _
 ·exact SeqAt.RcNeAt.str_tuple _ _ ‹_› eA
 ·exact SeqAt.RcNeAt.str_list _ _ ‹_› eA
 ·exact SeqAt.RcNeAt.tuple_none ‹_› eA
 ·exact SeqAt.RcNeAt.tuple_bool _ ‹_› eA
 ·exact SeqAt.RcNeAt.tuple_int _ _ ‹_› eA
 ·exact SeqAt.RcNeAt.tuple_str _ _ ‹_› eA
 ·rename_i ds a1 KU i1 u6 A5 A6 p1 es a2 KW i2 qN vH wW p2;exact G1 A6 wW A5 vH eA (vT A6 wW A5 vH λ_ _ _ _ _ _ _ q=>hi (by unfold eB at hd;lia) q) p1 p2
 ·exact SeqAt.RcNeAt.tuple_list ‹_› ‹_› eA
 ·exact SeqAt.RcNeAt.list_none ‹_› eA
 ·exact SeqAt.RcNeAt.list_bool _ ‹_› eA
 ·exact SeqAt.RcNeAt.list_int _ _ ‹_› eA
 ·exact SeqAt.RcNeAt.list_str _ _ ‹_› eA
 ·exact SeqAt.RcNeAt.list_tuple ‹_› ‹_› eA
 ·rename_i ds a1 KU i1 u6 A5 A6 p1 es a2 KW i2 qN vH wW p2;exact G3 A6 wW A5 vH eA (vT A6 wW A5 vH λ_ _ _ _ _ _ _ q=>hi (by unfold eB at hd;lia) q) p1 p2
def Qw (K:aai)(f:Bool->Bool):R2:=λx y H Q=>∃d1 d2,iG K H d1 x/\iG K H d2 y/\eB d1<=30/\Q (.bl (f (iQ d1 d2))) H
theorem Qx (hu:X.A.units+64<abI):j6 X (abO .Eq) (Qw X.K id):=by
 intro pins s σ H x y v u Q I rx ry h;obtain⟨d1,d2,h1,h2,hd,q⟩:=h;exact Qv I 30 d1 d2 x y v u X.A hd (by lia) h1 h2 rx ry _ X.w X.xe _ ⟨.bl _,H,I,rfl,q⟩
theorem xj (hu:X.A.units+64<abI):j6 X (abO .NotEq) (Qw X.K not):=by
 intro pins s σ H x y v u Q I rx ry h;obtain⟨d1,d2,h1,h2,hd,q⟩:=h;exact G4 I 30 d1 d2 x y v u X.A hd (by lia) h1 h2 rx ry _ X.w X.xe _ ⟨.bl _,H,I,rfl,q⟩
end L2
namespace L2
inductive LJ (K:aai)(H:Hp):V->String->Prop where
 |non:LJ K H .non "NoneType"
 |bl (x:Bool):LJ K H (.bl x) "bool"
 |int (i:Int):LJ K H (.int i) "int"
 |str (x:Str):LJ K H (.str x) "str"
 |lst {a:aaM} {xs:List V} (e:H a=some (.lst xs)):LJ K H (.ref a) "list"
 |frz {a:aaM} {o:Obj} {xs:List V} (e:H a=some (.frz o (.lst xs))):LJ K H (.ref a) "list"
 |tup {a:aaM} {xs:List V} (e:H a=some (.tup xs)):LJ K H (.ref a) "tuple"
 |dK {a:aaM} {aX:List (Key×V)} (e:H a=some (.dK aX)):LJ K H (.ref a) "dict"
 |dT {a:aaM} {aX:List (List Key×V)} (e:H a=some (.dT aX)):LJ K H (.ref a) "dict"
theorem qg:d5 X (.type "range") (λxs H Q=>∃j,xs=[.int j]/\∀p,H p=none->Q (.ref p) (cT H p (.rng 0 j))):=by
 intro pins s σ H xs us Q I r h;obtain⟨j,rfl,q⟩:=h;obtain⟨u,rfl,rx⟩:=gX r;obtain⟨t,rfl⟩:=rx;refine call_range_1 ⟨.ref _,cT H _ _,I.laid (λb u e=>aad _ e) (aao _) ?_,rfl,q _ (I.hok.fresh (aao _))⟩;exact⟨_,_,_,aam _ rfl⟩
theorem sG {a:Int}{cD:Array aak}(h:ItemsOf (λi v=>∃t,v=Value.int (a+i*1) t) cD n):aV ((aa7 n).map λi=>V.int (a+(i:Nat))) cD.toList:=by
 obtain⟨hs,hi⟩:=h;have gen:∀(l:List aak) (k:Nat),(∀(i:Nat) v,l[i]? = some v->∃t,v=Value.int (a+((k+i:Nat):Int)*1) t)->aV ((List.range' k l.length).map λi=>V.int (a+(i:Nat))) l:=by
  intro l
  induction l with
  |nil=>intro k _;exact .nil
  |cons v r ih=>
   intro k hk;refine .cons ?_ (ih (k+1) λi v e=>?_)
   ·obtain⟨t,e⟩:=hk 0 v rfl;exact⟨t,by rw[e];simp⟩
   ·obtain⟨t,e'⟩:=hk (i+1) v (by simpa using e);refine⟨t,?_⟩;rw[e',show k+(i+1)=k+1+i by lia]
 have q:=gen cD.toList 0 (λi v e=>by
  obtain⟨t,e'⟩:=hi i v (by simpa using e);exact⟨t,by rw[e',adg]⟩)
 rw[aay,hs] at q;rw[List.range_eq_range'];exact q
theorem vi (hc:X.calm=true):d5 X (.type "list") (λxs H Q=>∃p lo hi,xs=[.ref p]/\H p=some (.rng lo hi)/\(-(2 ^ 62)<=lo/\lo<2 ^ 62/\ -(2 ^ 62)<=hi/\hi<2 ^ 62)/\(hi-lo).toNat<=2 ^ 20/\
  ∀l,H l=none->Q (.ref l) (cT H l (.lst ((aa7 (hi-lo).toNat).map λi=>V.int (lo+(i:Nat)))))):=by
 intro pins s σ H xs us Q I r h;obtain⟨p,lo,hi,rfl,hp,⟨h1,h2,h3,h4⟩,hz,q⟩:=h;obtain⟨u,rfl,rx⟩:=gX r;cases rx;obtain⟨t,u,v,e⟩:=I.hok p _ hp;refine call_list_range (n:=(hi-lo).toNat) (I.ok.hd hc) (e) (small_one h1 h2 h3 h4) (by rw[rangeSize_one];split<;>lia) (by lia) λh' tk SE c' hk Py rB=>?_;have hl:((aa7 (hi-lo).toNat).map λi=>V.int (lo+(i:Nat))).length<=aah:=by
  rw[aab,abd,ack];lia
 refine⟨.ref _,_,I.laid hk (aao _) (show cP X.prog X.w _ _ _ (.lst _) from ⟨hl,SE.toList,c',sG rB,by simpa using Py⟩),rfl,q _ (I.hok.fresh (aao _))⟩
def G5 (i j:Int):Prop:=0<j/\j<18446744073709551616
theorem Bn (h:n<18446744073709551616):n.log2<9000:=by
 by_cases h0:n=0
 ·subst h0;decide
 ·have:=(Nat.log2_lt h0 (k:=64)).mpr (by lia);lia
theorem dU:j6 X (adO .FloorDiv) (rI G5 λi j=>.int (i / j)):=V2 λi j _ _ _ _ _ hc q=>by
 refine floordiv_int (by have:=hc.1;lia) ?_ (.inl (PyProof.noPylong_of_log2 (Bn (by have:=hc.1;have:=hc.2;lia))));rw[Int.fdiv_eq_ediv_of_nonneg _ (by have:=hc.1;lia)];exact q
def LK:abr "list"=some (.type "list"):=by decide+kernel
def cf:abr "tuple"=some (.type "tuple"):=by decide+kernel
def LL:abr "dict"=some (.type "dict"):=by decide+kernel
def zc:abr "range"=some (.type "range"):=by decide+kernel
def eN:abr "len"=some (.builtin "len"):=by decide+kernel
def G6:abr "max"=some (.builtin "max"):=by decide+kernel
def xk:abr "min"=some (.builtin "min"):=by decide+kernel
def G7:abr "abs"=some (.builtin "abs"):=by decide+kernel
def i7:abr "sorted"=some (.builtin "sorted"):=by decide+kernel
def Qy:abr "all"=some (.builtin "all"):=by decide+kernel
def Qz:abr "sum"=some (.builtin "sum"):=by decide+kernel
end L2
namespace HT
open L2
section
variable {w:abq}{A:aba}
theorem getItem_tuple_whole {sl:aaM}{items:Array aak}{vl vu:aak}{lo:Option Int}(ht:IsTup s.heap t items)(hs:s.heap.IsSliceOf sl vl vu .none)(pl:IsPart vl lo)(pu:IsPart vu hi)(hw:sIx items.size 0 lo=0/\sIx items.size items.size hi=items.size)(h:Q (.ref t) s):aaW (aa1 prog w) A (aft (.ref t) (.ref sl)) Q E s:=by
 obtain⟨os,Lg,hcs,SS⟩:=id hs;have X1:s.TypeIs (.ref sl) "slice":=⟨os,Lg,hcs⟩;unfold aft
 try with_reducible refine abt ?_
 refine aaa (wpAny_sequenceKey ht.typeIs (by decide) ?_);refine aaa (aa6 ht.typeIs acm
  (aa0 acm ht.typeIs entry_tuple_getitem ?_ (args_tuple_getitem _ _)))
 show aaW _ _ (adY (.ref t) >>= _) _ _ s;refine aaa (tupleItemsOf_ ht ?_);refine aaa (ae3 X1 ?_);refine aaa (i5 hs pl pu ?_);obtain⟨w1,w2⟩:=hw;rw[w1,w2];show aaW _ _ (if (((0:Nat):Int)==0&&(1:Int)==1&&(items.size-0)==items.size)=true then _ else _) _ _ s;rw[h9 (by simp)];have VL:aaW (aa1 prog w) A.in1 (Builtin.Tuple.tupleIsExact (.ref t)) (λb s'=>b=true/\s'=s) E s:=by
  exact aaa (ae3 ht.typeIs (aae ⟨by decide,rfl⟩))
 refine aaa (abk VL (λb s' hb=>?_) λ_ _ e=>e);obtain⟨rfl,rfl⟩:=hb;exact aaa (acU (aae ⟨_,rfl,aae h⟩))
end
end HT
namespace L2
def sH (h:H p=none)(o:HO):aJ H (cT H p o):=λb u q=>by rw[aI (bX q h)];exact q
section
open AutoSeq1 (wpAny_loadPart')
theorem lA {w:abq}{A:aba}{Q:List aak->aaD->Prop}{r:aaM}{a b c:Int}{t u v:Tok}(hh:A.handled=none)(hr:IsRange s.heap r a b c t u v)(Cz:Builtin.Range.small a b c=true)(hn:aet a b c=n)(fg:n<=2 ^ 24)(hQ:∀h' tk (cD:Array aak),(∀b o',s.heap.get? b=some o'->h'.get? b=some o')->ItemsOf (λi v=>∃t,v=.int (a+i*c) t) cD n->Q cD.toList {s with heap:=h',toks:=tk}) :
  aaW (aa1 prog w) A (collect (.ref r)) Q E s:=by
 refine aaa (wpAny_runValue (acN F.entry_proto_collect ?_));refine aaa (abl ?_);refine aae ⟨afk F.plain_list_iadd _,acN F.entry_list_iadd ?_⟩;have hS:(s.heap.push _).get? _=some {cls:=.type "list",data:=.seq #[] 0}:=aam _ rfl;refine abk (wpAny_extend_range (R:=λres s'=>res=.ok _/\aaW (aa1 prog w) A (load s.heap.objs.size >>= λo=>match o.data with|.seq xs _=>pure xs.toList|_=>unsupported "internal:collect") Q E s')
  hh (aad _ hr) Cz hn fg _ _ 0 hS λh' tk SE c' hk Py rB=>⟨rfl,?_⟩) (λfin s' h=>?_) λe s' h=>absurd h.1 (by simp)
 ·refine aaa (wpAny_load Py (aae ?_));exact hQ h' tk SE (λb o' hb=>hk b o' (aaN (aaA hb)) (aad _ hb)) rB
 ·cases fin with
  |done f=>
   obtain⟨e,q⟩:=h;cases e;exact q
  |again c'=>exact⟨h.1,ael h.2 λr Su hr=>by obtain⟨rfl,q⟩:=hr;exact q⟩
theorem j7 (l:aaM)(a b c:Int)(t u v:Tok)(n:Nat)(Cz:Builtin.Range.small a b c=true)(hn:aet a b c=n)(fg:n<=2 ^ 20) :
  Meets (Builtin.«tuple.__new__» ⟨[.type "tuple",.ref l],[]⟩)
   (λA R s=>A.handled=none/\IsRange s.heap l a b c t u v/\∀(h':acP) (tk:Nat) (cD:Array aak),(∀b o',s.heap.get? b=some o'->h'.get? b=some o')->ItemsOf (λi v=>∃t,v=.int (a+i*c) t) cD n->
    R (.ok (.ret (.ref h'.objs.size))) {s with heap:=h'.push {cls:=.type "tuple",data:=.seq cD},toks:=tk}):=
 .of_wp λprog w A R s h=>by
  obtain⟨hh,ht,h⟩:=h;have ZV:=sub_tuple_self;have Y4:=init_tuple_lookup;have hmh:=madeHere_tuple;wp_walk using ae3 hT,lA (A:=A.in1) hh ht Cz hn (by lia);intro h' NG cD hk rB;show aaW _ _ (Builtin.Tuple.tupleExact _ >>= λv=>ret v) _ _ _;refine aaa (abl ?_ (by show cD.toList.toArray.size<=aah;rw[ack];simp;have:=rB.1;lia));refine aae ⟨_,rfl,?_⟩;have e:cD.toList.toArray=cD:=by simp
  exact h h' NG cD hk rB
theorem sI (hc:X.calm=true):d5 X (.type "tuple") (λxs H Q=>∃p lo hi,xs=[.ref p]/\H p=some (.rng lo hi)/\(-(2 ^ 62)<=lo/\lo<2 ^ 62/\ -(2 ^ 62)<=hi/\hi<2 ^ 62)/\(hi-lo).toNat<=2 ^ 20/\
  ∀l,H l=none->Q (.ref l) (cT H l (.tup ((aa7 (hi-lo).toNat).map λi=>V.int (lo+(i:Nat)))))):=by
 intro pins s σ H xs us Q I r h;obtain⟨p,lo,hi,rfl,hp,⟨h1,h2,h3,h4⟩,hz,q⟩:=h;obtain⟨u,rfl,rx⟩:=gX r;cases rx;obtain⟨t,u,v,e⟩:=I.hok p _ hp;refine callType_new F.called_tuple (by decide) (F.typeCall_tuple_1 _) (F.newCall_tuple_1 _) (λobj=>F.args_object_init_2 obj _) F.entry_tuple_new
  (j7 p lo hi 1 t u v _ (small_one h1 h2 h3 h4) (by rw[rangeSize_one];split<;>lia) hz) ⟨I.ok.hd hc,e,λh' tk cD hk rB=>⟨⟨_,aam _ rfl,rfl⟩,?_⟩⟩
 have hl:((aa7 (hi-lo).toNat).map λi=>V.int (lo+(i:Nat))).length<=aah:=by
  rw[aab,abd,ack];lia
 have I1:aE X pins σ H {s with heap:=h',toks:=tk}:=I.kept hk;refine⟨.ref _,_,I1.laid (λb o e=>aad _ e) (aao _) (show cP X.prog X.w _ _ _ (.tup _) from ⟨hl,cD.toList,sG rB,by simpa using IsTup.new h' cD,0,by simpa using aam h' rfl⟩),rfl,q _ (I1.hok.fresh (aao _))⟩
end
end L2
namespace HT
open L2
end HT
namespace L2
def zd:V->List V->Hp->VK->Prop:=λx vs H Q=>∃l b xs zs,x=.ref l/\vs=[.ref b]/\H l=some (.lst xs)/\H b=some (.tup zs)/\xs.length+zs.length<=aah/\Q .non (cT H l (.lst (xs++zs)))
theorem Bo:WW X "list.extend" zd:=by
 intro pins s σ H x vs v us Q I rx rv h;obtain⟨l,b,xs,zs,rfl,rfl,hH,hB,hz,q⟩:=h;cases rx;obtain⟨u,rfl,ru⟩:=rv.one;cases ru;obtain⟨z,aD,n,r,hl,e⟩:=I.lstM hH;obtain⟨z2,its2,r2,_,n2,e2⟩:=I.hok b _ hB;have Gp:=r2.length;have hsz:aD.toArray.size+its2.toArray.size<=aah:=by rw[aax,aax];lia
 have KY:¬(!aD.toArray.isEmpty&&aeo (aD.toArray.size+its2.toArray.size))=true:=by
  rw[su hsz,Bool.and_false];exact aaz
 refine aeV F.slot_list_extend ⟨_,e,rfl⟩ F.entry_list_extend (F.args_list_extend_2 _ _)
  (AutoSeq1.list_extend_list_tuple_0 l _ n b _ n2 KY (by lia) (by lia)) ⟨e,e2,?_⟩
 refine⟨.non,_,I.lset hH e (by simp) (r.append r2) ?_,rfl,q⟩;rw[aaj];lia
theorem xl:d5 X (.builtin "sorted") (λxs H Q=>∃(p:aaM) (ns:List Int),xs=[.ref p]/\(fX X.K H p (ns.map V.int)\/gr X.K H p (ns.map V.int))/\ns.length<64/\
  ∀(l:aaM) (yM:List Int),H l=none->yM.Perm ns->yM.Pairwise (·<=·)->Q (.ref l) (cT H l (.lst (yM.map V.int)))):=by
 intro pins s σ H xs us Q I r h;obtain⟨p,ns,rfl,hq,h64,q⟩:=h;obtain⟨u,rfl,rx⟩:=gX r;cases rx;have r9:∃(T:String) (o:Obj) (aD:List aak) (n:Nat),(T="list"\/T="tuple")/\s.heap.get? p=some o/\o.cls=.type T/\o.data=.seq aD.toArray n/\ae_ aD ns:=by
  rcases hq with hq|hq
  ·obtain⟨aD,rv,pl,hz⟩:=I.list hq;obtain⟨o,e,c,n,d⟩:=pl.isList;exact⟨"list",o,aD,n,.inl rfl,e,c,d,jt rv⟩
  ·obtain⟨aD,rv,pl,hz⟩:=I.tuple hq;obtain⟨o,e,c,n,d⟩:=pl;exact⟨"tuple",o,aD,n,.inr rfl,e,c,d,jt rv⟩
 obtain⟨T,o,aD,n,hT,ho,hc,hd,hI⟩:=r9;have fg:=hI.length;refine ad9 kind_sorted plain_sorted entry_sorted (args_sorted1 _) ?_;refine aaa (aae ?_);refine aaa (afZ p hT ho hc hd (λh1 k1=>?_) (by rw[aax,ack];lia));refine aaa (wpAny_newList ?_);have SF:(h1.push _).get? _=some (seqObj "list" aD.toArray 0):=aam _ rfl;have SG:=by simpa using SF
 refine aaa (abt (aa0 slot_list_sort ⟨_,SG,rfl⟩ entry_list_sort (list_sort_tree SG hI (by lia) λout yM a1 a2 a3=>⟨_,rfl,?_⟩) (args_list_sort _)));refine aae ⟨_,rfl,?_⟩;obtain⟨e,he⟩:=sortedHeap_at SG;have keep:∀b o,h1.get? b=some o->(sortedHeap (h1.push {cls:=.type "list",data:=.seq (aD.toArray.toList).toArray}) _ aD out).get? b=some o:=λb o e=>by
  have hb:=aaA e;rw[sortedHeap_old (aaN hb) (by rw[ab0];exact acL hb)];exact aad _ e
 have I1:=I.kept (t':=s.toks) k1;have Gp:(yM.map V.int).length<=aah:=by rw[aab,a2.length_eq,ack];lia
 exact⟨.ref _,_,I1.laid keep (aao _) (show cP X.prog X.w _ _ _ (.lst _) from ⟨Gp,out.toList,e,oR a1,by simpa using he⟩),rfl,q _ yM (I1.hok.fresh (aao _)) a2 a3⟩
theorem EV {bs:List Bool}{us:List aak}(r:aV (bs.map V.bl) us){v:aak}(h:us[i]? = some v):v=.bool (bs.getD i true):=by
 have hl:=r.length;rw[aab] at hl;obtain⟨hi,_⟩:=aap.mp h;have e:(bs.map V.bl)[i]? = some (V.bl (bs.getD i true)):=by
  simp[aac (show i<bs.length by lia)]
 obtain⟨u,hu,ru⟩:=r.get e;rw[h] at hu;cases hu;exact ru
theorem EW (bs:List Bool):((aa7 bs.length).all λi=>bs.getD i true)=bs.all id:=by
 induction bs with
 |nil=>rfl
 |cons b bs ih=>
  rw[aat,List.range_succ_eq_map,abT,aeq];congr 1
theorem EX (hc:X.calm=true):d5 X (.builtin "all") (λxs H Q=>∃(p:aaM) (bs:List Bool),xs=[.ref p]/\fX X.K H p (bs.map V.bl)/\Q (.bl (bs.all id)) H):=by
 intro pins s σ H xs us Q I r h;obtain⟨p,bs,rfl,hq,q⟩:=h;obtain⟨u,rfl,rx⟩:=gX r;cases rx;obtain⟨aD,rv,pl,hz⟩:=I.list hq;have hl:=pl.isList;have CA:p<s.heap.objs.size:=by obtain⟨_,e,_⟩:=hl;exact aaA e
 refine call_all_walk (adN hl ?_);refine⟨s.heap.objs.size,_,_,_,_,_,λi=>bs.getD i true,rfl,Walks.list (A:=X.A.in1) (I.ok.hd hc) _ p (aaN CA) _,⟨⟨_,aam _ rfl,rfl,rfl⟩,hl.push _⟩,?_,λh' tk hk=>?_⟩
 ·intro i v s' Q' E' hP ZW;have e:=EV rv (by simpa using hP);subst e;exact adM ZW
 ·have e:(aa7 aD.toArray.size).all (λi=>bs.getD i true)=bs.all id:=by
   rw[aax,←rv.length,aab];exact EW bs
  rw[e];refine⟨.bl _,H,I.kept λb o e=>hk b o (λhm=>?_) (aad _ e),rfl,q⟩;rcases aaw.mp hm with e1|hm
  ·exact absurd (e1▸aaA e) (acr _)
  ·cases hm
def G8 (K:aai):V->Option Int->Option Int->Hp->VK->Prop:=λx lo hi H Q=>∃a xs,x=.ref a/\H a=some (.tup xs)/\∀r H',aJ H H'->H' r=some (.tup (xf xs lo hi))->Q (.ref r) H'
theorem LM:GJ X (G8 X.K):=by
 have base:GJ X _:=Qk;intro pins s σ H x v vl vu lo hi sl Q I rx hs pl pu h;obtain⟨a,xs,rfl,wV,q⟩:=h;have hx:gr X.K H a xs:=gr.of wV;by_cases hw:HT.sIx xs.length 0 lo=0/\HT.sIx xs.length xs.length hi=xs.length
 ·cases rx;obtain⟨aD,r,ht,hz⟩:=I.tuple hx;have hl:aD.toArray.size=xs.length:=by rw[aax,r.length]
  refine⟨"tuple",_,PyProof.Rows.slot_tuple_getitem.lookup,ht.typeIs,HT.getItem_tuple_whole ht hs pl pu (by rw[hl];exact hw) ⟨.ref a,H,I,rfl,q a H (aJ.refl _) ?_⟩⟩;have e:xf xs lo hi=xs:=by unfold xf;rw[hw.1,hw.2];simp
  rw[e];exact wV
 ·exact base pins s σ H _ v vl vu lo hi sl Q I rx hs pl pu ⟨a,xs,rfl,hx,hw,λp hp=>q p _ (sH hp _) bj⟩
def G9:R2:=λx y H Q=>∃a b xs ys,x=.ref a/\y=.ref b/\H a=some (.tup xs)/\H b=some (.tup ys)/\xs.length+ys.length<=aah/\∀r H',aJ H H'->H' r=some (.tup (xs++ys))->Q (.ref r) H'
theorem G_:j6 X (adO .Add) G9:=by
 intro pins s σ H x y v u Q I rx ry h;obtain⟨a,b,xs,ys,rfl,rfl,Bb,NH,hz,q⟩:=h;have ha:gr X.K H a xs:=gr.of Bb;have hb:gr X.K H b ys:=gr.of NH;by_cases hx:xs=[]
 ·subst hx;cases rx;cases ry;obtain⟨aD,r1,p1,_⟩:=I.tuple ha;obtain⟨its2,r2,p2,_⟩:=I.tuple hb;have e1:=(aV.nil_iff r1).mpr rfl;subst e1;obtain⟨⟨cls,dd,data,sl⟩,ho,hc,n,hd⟩:=id p1;obtain⟨⟨cls2,Td,data2,sl2⟩,ho2,hc2,n2,hd2⟩:=id p2;subst hc hd hc2 hd2;exact concat_meets ⟨_,ho,rfl⟩ ⟨_,ho2,rfl⟩ noFill_tuple_add seq_tuple_add aeQ aez (aen _ _)
   (tuple_addW0 a b _ _ n n2 dd Td sl sl2 (by simp)) ⟨ho,ho2,⟨.ref b,H,I,rfl,q b H (aJ.refl _) (by simpa using NH)⟩⟩
 ·refine Lz pins s σ H _ _ v u Q I rx ry ⟨a,b,xs,ys,rfl,rfl,ha,hb,hx,hz,λe=>?_,λ_ p hp=>q p _ (sH hp _) bj⟩;subst e;exact q a H (aJ.refl _) (by simpa using Bb)
end L2
namespace L2
structure Fn (P:acC)(w:abq)(K:aai)(mg:Str->Option aak)(base:acP)(x:Str)(k:Nat)(ps:List Str)(sp:Sp):Prop where
 ex:∃(f:aaM) (fd:adA),mg x=some (.ref f)/\acb K (.ref f)=true/\j9 K fd ps []/\iP P w K mg base xi k f fd ps sp
structure Df (K:aai)(mg:Str->Option aak)(x:Str)(st:aeO):Prop where
 ex:∃(f:aaM) (fd:adA),mg x=some (.ref f)/\K8 K x x st f fd
section
variable {w:abq}{base:acP}
theorem Df.fn (d:Df K mg x st)(S:aK N ps (ai st))(hb:∀(kV kN pm:aak) (an:Option aaM) (cA ct:aak) (us:List aak),us.length=ps.length->afJ (abP x x (dC st) (bI st) (ai st) .none kV kN pm an cA ct) ⟨us,[]⟩=pure (ps.zip us))(len:∀vs H Q E,sp vs H Q E->vs.length=ps.length)(eG:∀(f:aaM) (cA:aak) (A:aba) (outer:List Env) (s:aaD) (H:Hp) (vs:List V) (Q:VK) (E:XK),dS k (A.deeper (ac5 x (ai st) s.heap.objs.size f cA))->sp vs H Q E->
   ∃t,vc (gG xi P w K mg base N x (ai st) f cA A outer s H E).nox (bI st) t/\t {nx:=λ_ H'=>Q .non H',rt:=Q} (start N vs) H):Fn P w K mg base x (k+1) ps sp:=by
 obtain⟨f,fd,m,F⟩:=d.ex;exact⟨f,fd,m,F.kp,F.binds hb,F.ok S len (eG f)⟩
end
section
variable {p:Pos}{e:aca}{es:List aca}{t:TA}
theorem ze (F:Fn X.prog X.w X.K X.mg X.base x k ps sp)(hr:dS k X.A)(ha:PA X (e::es) t)(hg:Gl X x:=by rfl)(wR:(x==("__debug__":Str))=false:=by decide)
  (he:aaC (e::es) X.env=(false,adB e X.env)::aaC es X.env:=by rfl) (pY:(acq pos (aaC es X.env)).any (·.1)=false:=by rfl) :
  PE X (.Call (.Name x p) (e::es) [] pos) (NL sp [] E0 t):=by
 obtain⟨f,fd,hm,hk,hb,G⟩:=F.ex;exact Lu G hr hg hm hk hb .nil TY ha wR he pY
end
theorem aJ.seqT (e:aJ H H')(h:gr K H a xs):gr K H' a xs:=by
 rcases h with (h|⟨o,h⟩)|h
 ·exact .inl (.inl (e _ _ h))
 ·exact .inl (.inr ⟨o,e _ _ h⟩)
 ·exact .inr h
mutual
theorem aJ.rep {K:aai}{H H':Hp}(e:aJ H H'):∀{d:D} {v:V},iG K H d v->iG K H' d v
 | .non,v,h=>by unfold iG at h ⊢;exact h
 | .bl b,v,h=>by unfold iG at h ⊢;exact h
 | .int b,v,h=>by unfold iG at h ⊢;exact h
 | .str b,v,h=>by unfold iG at h ⊢;exact h
 | .tup ds,v,h=>by
  unfold iG at h ⊢;obtain⟨a,xs,r,q,z⟩:=h;exact⟨a,xs,r,e.seqT q,aJ.reps e z⟩
 | .lst ds,v,h=>by
  unfold iG at h ⊢;obtain⟨a,xs,r,q,z⟩:=h;exact⟨a,xs,r,e.seq q,aJ.reps e z⟩
theorem aJ.reps {K:aai}{H H':Hp}(e:aJ H H'):∀{ds:List D} {vs:List V},fD K H ds vs->fD K H' ds vs
 | [],vs,h=>by unfold fD at h ⊢;exact h
 |d::ds,vs,h=>by
  unfold fD at h ⊢;obtain⟨x,r,q,p,z⟩:=h;exact⟨x,r,q,aJ.rep e p,aJ.reps e z⟩
end
end L2
namespace L2
inductive U where
 |non|bl (b:Bool)|int (i:Int)|str (x:Str)|tup (xs:List U)|lst (xs:List U)|dct (ks vs:List U)|scr (xs:List U)|obj (fs:List Str) (xs:List U)
instance:Inhabited U:=⟨.non⟩
inductive R (α:Type) where
 |ok (a:α)|exc (c:String) (u:U)|stk
noncomputable def R.bind {α β:Type}:R α->(α->R β)->R β
 | .ok a,f=>f a
 | .exc c u,_=>.exc c u
 | .stk,_=>.stk
noncomputable abbrev Ev:=List (Option U)
inductive SR where
 |nx (ρ:Ev)|rt (u:U) (ρ:Ev)|bk (ρ:Ev)|ct (ρ:Ev)|exc (c:String) (u:U)|stk
end L2
variable {us ks:List L2.U}{u s1:L2.U}{es:List (List L2.U×aaM×L2.V)}{ρ:L2.Ev}{sg:L2.U->L2.Ev->L2.R L2.Ev}
namespace L2
open Sem (wp)
mutual
noncomputable def vj:U->U->Bool
 | .non,.non=>true
 | .bl a,.bl b=>decide (a=b)
 | .int a,.int b=>decide (a=b)
 | .str a,.str b=>decide (a=b)
 | .tup a,.tup b=>mY a b
 | .lst a,.lst b=>mY a b
 | .dct a b,.dct c d=>mY a c&&mY b d
 | .scr a,.scr b=>mY a b
 | .obj a b,.obj c d=>decide (a=c)&&mY b d
 |_,_=>false
noncomputable def mY:List U->List U->Bool
 | [],[]=>true
 |x::xs,y::ys=>vj x y&&mY xs ys
 |_,_=>false
end
mutual
theorem Ha:∀{a b:U},vj a b=true->a=b
 | .non,b,h=>by cases b<;>first|rfl|(unfold vj at h;cases h)
 | .bl a,b,h=>by cases b<;>unfold vj at h<;>first|(cases h;done)|rw[of_decide_eq_true h]
 | .int a,b,h=>by cases b<;>unfold vj at h<;>first|(cases h;done)|rw[of_decide_eq_true h]
 | .str a,b,h=>by cases b<;>unfold vj at h<;>first|(cases h;done)|rw[of_decide_eq_true h]
 | .tup a,b,h=>by cases b<;>unfold vj at h<;>first|(cases h;done)|rw[jv h]
 | .lst a,b,h=>by cases b<;>unfold vj at h<;>first|(cases h;done)|rw[jv h]
 | .scr a,b,h=>by cases b<;>unfold vj at h<;>first|(cases h;done)|rw[jv h]
 | .dct a c,b,h=>by
  cases b<;>unfold vj at h<;>first|(cases h;done)|skip
  rw[aau] at h;rw[jv h.1,jv h.2]
 | .obj a c,b,h=>by
  cases b<;>unfold vj at h<;>first|(cases h;done)|skip
  rw[aau] at h;rw[of_decide_eq_true h.1,jv h.2]
theorem jv:∀{a b:List U},mY a b=true->a=b
 | [],[],_=>rfl
 | [],_::_,h=>by unfold mY at h;cases h
 |_::_,[],h=>by unfold mY at h;cases h
 |x::xs,y::ys,h=>by
  unfold mY at h;rw[aau] at h;rw[Ha h.1,jv h.2]
end
mutual
theorem zf:∀(a:U),vj a a=true
 | .non=>rfl
 | .bl a=>by unfold vj;exact hJ rfl
 | .int a=>by unfold vj;exact hJ rfl
 | .str a=>by unfold vj;exact hJ rfl
 | .tup a=>by unfold vj;exact fE a
 | .lst a=>by unfold vj;exact fE a
 | .scr a=>by unfold vj;exact fE a
 | .dct a b=>by unfold vj;rw[fE a,fE b];rfl
 | .obj a b=>by unfold vj;rw[fE b,hJ rfl];rfl
theorem fE:∀(a:List U),mY a a=true
 | []=>by unfold mY;rfl
 |x::xs=>by unfold mY;rw[zf x,fE xs];rfl
end
noncomputable instance Zw:DecidableEq U:=λa b=>if h:vj a b=true then .isTrue (Ha h) else .isFalse λe=>h (by rw[e];exact zf b)
mutual
def iI (h:acP):U->aak->Prop
 | .int i,v=>∃t,v=.int i t
 | .tup us,v=>∃a items,v=.ref a/\h.IsTuple a items/\eO h us items.toList
 |_,_=>False
def eO (h:acP):List U->List aak->Prop
 | [],vs=>vs=[]
 |u::us,vs=>∃v r,vs=v::r/\iI h u v/\eO h us r
end
mutual
noncomputable def hK:U->Int
 | .int i=>hashInt i
 | .tup us=>reduceHash (ad_ (Hb us))
 |_=>0
noncomputable def Hb:List U->List Int
 | []=>[]
 |u::us=>hK u::Hb us
end
mutual
noncomputable def SX:U->Nat
 | .tup us=>qT us+1
 |_=>1
noncomputable def qT:List U->Nat
 | []=>0
 |u::us=>SX u+qT us
end
mutual
noncomputable def Ba:U->Nat
 | .tup us=>zg us+1
 |_=>0
noncomputable def zg:List U->Nat
 | []=>0
 |u::us=>max (Ba u) (zg us)
end
theorem Bp {x y:Array aak}(h1:h.IsTuple a x)(h2:h.IsTuple a y):x=y:=by
 obtain⟨o,e,_,n,d⟩:=h1;obtain⟨o',e',_,n',d'⟩:=h2;rw[e] at e';cases e';rw[d] at d';cases d';rfl
mutual
theorem iI.inj {h:acP}:∀{x y:U} {v:aak},iI h x v->iI h y v->x=y
 | .int i,y,v,h1,h2=>by
  unfold iI at h1;obtain⟨t,rfl⟩:=h1;cases y<;>unfold iI at h2<;>first|exact h2.elim|skip
  ·obtain⟨u,e⟩:=h2;cases e;rfl
  ·obtain⟨_,_,e,_⟩:=h2;cases e
 | .str i,y,v,h1,h2=>by unfold iI at h1;exact h1.elim
 | .tup us,y,v,h1,h2=>by
  unfold iI at h1;obtain⟨a,aD,rfl,q,z⟩:=h1;cases y<;>unfold iI at h2<;>first|exact h2.elim|skip
  ·obtain⟨u,e⟩:=h2;cases e
  ·obtain⟨a',rA,e,q',z'⟩:=h2;cases e;have:=Bp q q';subst this;rw[eO.inj z z']
 | .non,y,v,h1,h2=>by unfold iI at h1;exact h1.elim
 | .bl _,y,v,h1,h2=>by unfold iI at h1;exact h1.elim
 | .lst _,y,v,h1,h2=>by unfold iI at h1;exact h1.elim
 | .dct _ _,y,v,h1,h2=>by unfold iI at h1;exact h1.elim
 | .scr _,y,v,h1,h2=>by unfold iI at h1;exact h1.elim
 | .obj _ _,y,v,h1,h2=>by unfold iI at h1;exact h1.elim
theorem eO.inj {h:acP}:∀{x y:List U} {vs:List aak},eO h x vs->eO h y vs->x=y
 | [],y,vs,h1,h2=>by
  unfold eO at h1;subst h1;cases y with
  |nil=>rfl
  |cons=>unfold eO at h2;obtain⟨_,_,e,_⟩:=h2;cases e
 |u::us,y,vs,h1,h2=>by
  unfold eO at h1;obtain⟨v,r,rfl,p,q⟩:=h1;cases y with
  |nil=>unfold eO at h2;cases h2
  |cons=>
   unfold eO at h2;obtain⟨v',r',e,p',q'⟩:=h2;cases e;rw[iI.inj p p',eO.inj q q']
end
mutual
theorem iI.keep {h h':acP}(k:∀a aD,h.IsTuple a aD->h'.IsTuple a aD):∀{x:U} {v:aak},iI h x v->iI h' x v
 | .int i,v,h1=>by unfold iI at h1 ⊢;exact h1
 | .str i,v,h1=>by unfold iI at h1;exact h1.elim
 | .tup us,v,h1=>by
  unfold iI at h1 ⊢;obtain⟨a,aD,e,q,z⟩:=h1;exact⟨a,aD,e,k a aD q,eO.keep k z⟩
 | .non,v,h1=>by unfold iI at h1;exact h1.elim
 | .bl _,v,h1=>by unfold iI at h1;exact h1.elim
 | .lst _,v,h1=>by unfold iI at h1;exact h1.elim
 | .dct _ _,v,h1=>by unfold iI at h1;exact h1.elim
 | .scr _,v,h1=>by unfold iI at h1;exact h1.elim
 | .obj _ _,v,h1=>by unfold iI at h1;exact h1.elim
theorem eO.keep {h h':acP}(k:∀a aD,h.IsTuple a aD->h'.IsTuple a aD):∀{x:List U} {vs:List aak},eO h x vs->eO h' x vs
 | [],vs,h1=>by unfold eO at h1 ⊢;exact h1
 |u::us,vs,h1=>by
  unfold eO at h1 ⊢;obtain⟨v,r,e,p,q⟩:=h1;exact⟨v,r,e,iI.keep k p,eO.keep k q⟩
end
theorem eO.length {h:acP}:∀{us:List U} {vs:List aak},eO h us vs->us.length=vs.length
 | [],vs,h1=>by subst h1;rfl
 |u::us,vs,h1=>by
  obtain⟨v,r,rfl,p,q⟩:=h1;rw[aat,aat,eO.length q]
theorem eO.get {h:acP}:∀{us:List U} {vs:List aak} {i:Nat} {u:U} {v:aak},eO h us vs->us[i]? = some u->vs[i]? = some v->iI h u v
 | [],_,_,_,_,_,e,_=>by simp at e
 |w::us,_,i,u,v,h,e1,e2=>by
  obtain⟨x,r,rfl,p,q⟩:=h;cases i with
  |zero=>simp at e1 e2;subst e1 e2;exact p
  |succ i=>exact eO.get q (by simpa using e1) (by simpa using e2)
theorem mZ:∀{us:List U} {i:Nat} {u:U},us[i]? = some u->Ba u<=zg us
 | [],_,_,e=>by simp at e
 |w::us,i,u,e=>by
  cases i with
  |zero=>simp at e;subst e;exact Nat.le_max_left _ _
  |succ i=>exact aaR (mZ (by simpa using e)) (Nat.le_max_right _ _)
theorem sJ:∀(a b:List U),Hb (a++b)=Hb a++Hb b
 | [],b=>by rfl
 |x::a,b=>by rw[afb,Hb,sJ a b];rfl
theorem qh:∀(a b:List U),qT (a++b)=qT a+qT b
 | [],b=>by rw[ac9];show _=0+_;lia
 |x::a,b=>by rw[afb,qT,qT,qh a b];lia
section
variable {w:abq}
theorem QA:∀(n:Nat) (u:U) (v:aak) (A:aba) (E:aak->aaD->Prop) (s:aaD) (Q:Int->aaD->Prop),Ba u<=n->A.units+n<abI->iI s.heap u v->Q (hK u) {s with toks:=s.toks+SX u} ->
  aaW (aa1 prog w) A (pyHash v) Q E s:=by
 intro n
 induction n with
 |zero=>
  intro u v A E s Q hd hu hk h;cases u<;>unfold iI at hk<;>first|exact hk.elim|skip
  ·obtain⟨t,rfl⟩:=hk;exact wpAny_pyHash_int h
  ·unfold Ba at hd;lia
 |succ n ih=>
  intro u v A E s Q hd hu hk h;cases u<;>unfold iI at hk<;>first|exact hk.elim|skip
  ·obtain⟨t,rfl⟩:=hk;exact wpAny_pyHash_int h
  ·rename_i us;unfold Ba at hd;obtain⟨a,items,rfl,ht,hi⟩:=hk;have hT:s.TypeIs (.ref a) _:=let ⟨o,e,c,_⟩:=ht;⟨o,e,c⟩
   obtain⟨o,ho,_,nn,hdat⟩:=ht
   first|refine aaa (wpAny_cRoomFor_or (.inr (by lia)) ?_)|skip
   refine aaa (afu hT F.slot_tuple_hash.lookup ?_);refine aaa (afu hT F.slot_tuple_hash.lookup ?_);refine aaa (wpAny_callSpecialIfBoundUnlessNone?_slot hT F.slot_tuple_hash (aa0 F.slot_tuple_hash hT F.entry_tuple_hash ?_ (F.args_tuple_hash_1 _)));show aaW _ _ (adY _ >>= _) _ _ s;refine aaa (wpAny_tupleItemsOf ho hdat ?_);refine aaa ?_;rw[←Array.forIn_toList];refine wpAny_forIn_list _
    (λrest (b:Array Int) s'=>∃done left,us=done++left/\eO _ left rest/\b.toList=Hb done/\s'={s with toks:=s.toks+qT done})
    _ ?_ ?_ _ _ ⟨[],us,rfl,hi,by rfl,by rfl⟩
   ·rintro x rest b s' ⟨done,left,rfl,hl,hb,rfl⟩;cases left with
    |nil=>cases hl
    |cons k ks'=>
     obtain⟨v',r',e,h1,SQ⟩:=hl;cases e;have Yc:Ba k<=n:=by
      have:=mZ (us:=done++k::ks') (i:=done.length) (u:=k) (by simp);lia
     refine aaa (ih k x _ E _ _ Yc (by show A.units+1+n<abI;lia) h1 ?_);have e2:Hb (done++[k])=Hb done++[hK k]:=by rw[sJ];rfl
     have e3:qT (done++[k])=qT done+SX k:=by rw[qh];show _+(SX k+qT [])=_;unfold qT;lia
     first
      |exact aae ⟨done++[k],ks',by simp,SQ,by simp[hb,e2],by simp[e3,adi]⟩
      |exact aaa _
   ·rintro b s' ⟨done,left,rfl,hl,hb,rfl⟩;cases left with
    |cons k ks'=>obtain⟨_,_,e,_⟩:=hl;cases e
    |nil=>
     rw[aa2] at h;show aaW _ _ (retInt _) _ _ _;rw[hb];refine wpAny_ret_mkInt ?_;show aaW _ _ (if (decide _&&decide _)=true then _ else _) Q E _;unfold hK SX reduceHash at h;by_cases hr:(decide (-(2:Int) ^ 63<=ad_ (Hb done))&&decide (ad_ (Hb done)<2 ^ 63))=true
     ·rw[h9 hr];rw[h9 hr] at h;exact aae (by simpa [adi] using h)
     ·rw[hZ hr];rw[hZ hr] at h;exact aaa (acU (aae (by simpa [adi] using h)))
theorem WZ:∀(n:Nat) (x y:U) (u v:aak) (A:aba),Ba x<=n->A.units+n<abI->iI s.heap x u->iI s.heap y v->adu A s u v (decide (x=y)):=by
 intro n
 induction n with
 |zero=>
  intro x y u v A hd hu h1 h2;have eA:A.units<abI:=by lia
  cases x<;>(try (exact h1.elim))
  case int i=>
   obtain⟨t,rfl⟩:=h1;cases y<;>(try (exact h2.elim))
   case int j=>
    obtain⟨t',rfl⟩:=h2;have:=SeqAt.EqAt.int_int (A:=A) (s:=s) i t j t';have e:decide (U.int i=U.int j)=(i==j):=by rw[abu];simp
    rw[e];exact this
   case tup us=>
    obtain⟨a,aD,rfl,ht,_⟩:=h2;exact SeqAt.EqAt.int_tuple i t ht eA
  case tup us=>unfold Ba at hd;lia
 |succ n ih=>
  intro x y u v A hd hu h1 h2;have eA:A.units<abI:=by lia
  cases x<;>(try (exact h1.elim))
  case int i=>exact ih _ y u v A (by unfold Ba;lia) (by lia) h1 h2
  case tup us=>
   unfold Ba at hd;have Pz:=h1;obtain⟨a,aD,rfl,p1,z1⟩:=h1;cases y<;>(try (exact h2.elim))
   case int j=>
    obtain⟨t',rfl⟩:=h2;exact SeqAt.EqAt.tuple_int j t' p1 eA
   case tup ws=>
    have S_:=h2;obtain⟨b,its2,rfl,p2,z2⟩:=h2;by_cases hab:a=b
    ·subst hab;rw[iI.inj Pz S_,hJ rfl];exact afw _
    ·refine afK hab ?_;have l1:aD.size=us.length:=by rw[z1.length,aay]
     have l2:its2.size=ws.length:=by rw[z2.length,aay]
     have he:∀j (g1:j<aD.size) (g2:j<its2.size),adu A.in1 s _ _ (decide _):=λj g1 g2=>by
      have q1:us[j]? = some _:=aac (by lia);have q2:ws[j]? = some _:=aac (by lia);have y1:aD.toList[j]? = some aD[j]:=by rw[aa5];exact ab1 g1
      have y2:its2.toList[j]? = some its2[j]:=by rw[aa5];exact ab1 g2
      have e:decide (us[j]? = ws[j]?)=decide (us[j]=ws[j]):=by rw[q1,q2];simp
      rw[e];refine ih _ _ _ _ _ ?_ (by show A.units+1+n<abI;lia) (z1.get q1 y1) (z2.get q2 y2);have:=mZ q1;lia
     have q:=SeqAt.RcAt.tuples p1 p2 eA he;rw[l1,l2] at q;have fin:((aa7 (min us.length ws.length)).all (λj=>decide (us[j]? = ws[j]?))&&us.length==ws.length)=decide (U.tup us=U.tup ws):=by
      rw[abu,aau,aaJ,decide_eq_true_eq];constructor
      ·rintro⟨ha,hl⟩;have hl:=by simpa using hl
       congr 1;refine aeW λj=>?_;by_cases hj:j<us.length
       ·exact of_decide_eq_true (ha j (ad4.mpr (by lia)))
       ·rw[aby.mpr (by lia),aby.mpr (by lia)]
      ·intro e;cases e;exact⟨λj _=>hJ rfl,by simp⟩
     rw[←fin];exact q
theorem LN:∀(n:Nat) (x:U) (v:aak) (A:aba) (E:aak->aaD->Prop) (s:aaD) (Q:Bool->aaD->Prop),Ba x<=n->iI s.heap x v->Q true s->aaW (aa1 prog w) A (eqIsQuiet n v) Q E s:=by
 intro n
 induction n with
 |zero=>
  intro x v A E s Q hd hk h;cases x<;>unfold iI at hk<;>first|exact hk.elim|skip
  ·obtain⟨t,rfl⟩:=hk;exact aae h
  ·unfold Ba at hd;lia
 |succ n ih=>
  intro x v A E s Q hd hk h;cases x<;>unfold iI at hk<;>first|exact hk.elim|skip
  ·obtain⟨t,rfl⟩:=hk;exact aae h
  ·rename_i us;unfold Ba at hd;obtain⟨a,items,rfl,ht,hi⟩:=hk;have hT:s.TypeIs (.ref a) _:=let ⟨o,e,c,_⟩:=ht;⟨o,e,c⟩
   obtain⟨o,ho,_,nn,hdat⟩:=ht;unfold eqIsQuiet;refine aaa (afu hT F.slot_tuple_eq.lookup ?_);refine aaa (adp hT isSubtype_tuple_tuple ?_);refine aaa (acu ho hdat ?_);refine aaa ?_;rw[←Array.forIn_toList];refine wpAny_forIn_list _ (λrest r s'=>r.1=none/\s'=s/\∃done left,us=done++left/\eO _ left rest) _ ?_ ?_ _ _ ⟨rfl,rfl,[],us,rfl,hi⟩
   ·rintro v rest r s' ⟨hr,rfl,done,left,rfl,hl⟩;cases left with
    |nil=>cases hl
    |cons k ks'=>
     obtain⟨v',r',e,h1,SQ⟩:=hl;cases e;have Yc:Ba k<=n:=by
      have:=mZ (us:=done++k::ks') (i:=done.length) (u:=k) (by simp);lia
     refine aaa (ih k v A E _ _ Yc h1 ?_);exact aae ⟨rfl,rfl,done++[k],ks',by simp,SQ⟩
   ·rintro⟨r1,r2⟩ s' ⟨hr,rfl,_⟩;subst hr;exact aae h
def TK (h:acP)(us:List U)(a:aaM):Prop:=zg us<=6/\∃items,h.IsTuple a items/\eO h us items.toList
theorem TK.is (x:TK h us a):Ba (.tup us)<=7/\iI h (.tup us) (.ref a):=by
 obtain⟨l,aD,t,z⟩:=x;exact⟨by unfold Ba;lia,by exact⟨a,aD,rfl,t,z⟩⟩
theorem m4 {x y:List U}:(U.tup x=U.tup y)↔x=y:=⟨λh=>by cases h;rfl,λh=>by rw[h]⟩
noncomputable def i8 (prog:acC)(w:abq):HeapKind prog w (List U) where
 is:=TK
 hash:=λus=>hK (.tup us)
 draws:=λus=>SX (.tup us)
 room:=λA=>A.units+20<abI
 inj:=λhx hy=>m4.mp (iI.inj hx.is.2 hy.is.2)
 keeps:=λ{h h' k a d o es ep} x ho hd hs=>by
  have kp:∀b aD,h.IsTuple b aD->h'.IsTuple b aD:=λb aD h00=>by
   obtain⟨o',e,c,n,z⟩:=h00;have KZ:b≠d:=by
    rintro rfl;obtain rfl:o'=o:=aaX (e.symm.trans ho);rw[hd] at z;exact nomatch z
   exact⟨o',(hs.2 b KZ).trans e,c,n,z⟩
  obtain⟨l,aD,t,z⟩:=x;exact⟨l,aD,kp _ _ t,z.keep kp⟩
 pyHash:=λ{A E s k a Q} hu hk h=>QA 7 (.tup k) (.ref a) A E s Q hk.is.1 (by lia) hk.is.2 h
 eqBool:=λ{A E s x y a b Q} hu hx hy h=>WZ 7 (.tup x) (.tup y) (.ref a) (.ref b) A hx.is.1 (by lia) hx.is.2 hy.is.2 prog w E Q (by
  have e:decide (U.tup x=U.tup y)=decide (x=y):=by rw[abu,decide_eq_true_eq,decide_eq_true_eq];exact m4
  rw[e];exact h)
 quiet:=λ{A E s k a Q} hk h=>LN 8 (.tup k) (.ref a) A E s Q (aaR hk.is.1 (by lia)) hk.is.2 h
end
def CN (p:List U×aaM×V)(q:List U×aaM×aak):Prop:=p.1=q.1/\p.2.1=q.2.1/\aL p.2.2 q.2.2
noncomputable def W0 (e:List U×aaM×aak):DictEntry:=⟨hK (.tup e.1),.ref e.2.1,e.2.2⟩
def T7 (a:aaM)(ep:Nat)(es:List (List U×aaM×V))(h:acP):Prop:=(a==abF)=false/\∃o ds,∃xs:List (List U×aaM×aak),h.get? a=some o/\o.ExactDict/\o.data=.dict ds ep/\adD CN es xs/\ds.toList=xs.map W0
noncomputable def DN (a:aaM)(ep:Nat)(es:List (List U×aaM×V)):HO:=.ext (T7 a ep es)
mutual
def KH (H:Hp):U->V->Prop
 | .int i,v=>v=.int i
 | .tup us,v=>∃b ys,v=.ref b/\H b=some (.tup ys)/\us.length<=aah/\sL H us ys
 |_,_=>False
def sL (H:Hp):List U->List V->Prop
 | [],vs=>vs=[]
 |u::us,vs=>∃v r,vs=v::r/\KH H u v/\sL H us r
end
mutual
theorem KH.to {H H':Hp}(e:∀b ys,H b=some (.tup ys)->H' b=some (.tup ys)):∀{u:U} {v:V},KH H u v->KH H' u v
 | .int i,v,h=>by unfold KH at h ⊢;exact h
 | .tup us,v,h=>by
  unfold KH at h ⊢;obtain⟨b,ys,r,q,l,z⟩:=h;exact⟨b,ys,r,e b ys q,l,sL.to e z⟩
 | .non,v,h=>by unfold KH at h;exact h.elim
 | .bl _,v,h=>by unfold KH at h;exact h.elim
 | .str _,v,h=>by unfold KH at h;exact h.elim
 | .lst _,v,h=>by unfold KH at h;exact h.elim
 | .dct _ _,v,h=>by unfold KH at h;exact h.elim
 | .scr _,v,h=>by unfold KH at h;exact h.elim
 | .obj _ _,v,h=>by unfold KH at h;exact h.elim
theorem sL.to {H H':Hp}(e:∀b ys,H b=some (.tup ys)->H' b=some (.tup ys)):∀{us:List U} {vs:List V},sL H us vs->sL H' us vs
 | [],vs,h=>by unfold sL at h ⊢;exact h
 |u::us,vs,h=>by
  unfold sL at h ⊢;obtain⟨v,r,q,p,z⟩:=h;exact⟨v,r,q,KH.to e p,sL.to e z⟩
end
section
variable {w:abq}
mutual
theorem KH.is (ok:jn P w H h):∀{u:U} {v:V} {x:aak},KH H u v->aL v x->iI h u x
 | .int i,v,x,k,r=>by
  unfold KH at k;subst k;obtain⟨t,rfl⟩:=r;unfold iI;exact⟨t,rfl⟩
 | .tup us,v,x,k,r=>by
  unfold KH at k;obtain⟨b,ys,rfl,q,_,z⟩:=k;cases r;obtain⟨_,aD,rv,it,_⟩:=ok b _ q;unfold iI;exact⟨b,aD.toArray,rfl,it,by simpa using sL.is ok z rv⟩
 | .non,v,x,k,r=>by unfold KH at k;exact k.elim
 | .bl _,v,x,k,r=>by unfold KH at k;exact k.elim
 | .str _,v,x,k,r=>by unfold KH at k;exact k.elim
 | .lst _,v,x,k,r=>by unfold KH at k;exact k.elim
 | .dct _ _,v,x,k,r=>by unfold KH at k;exact k.elim
 | .scr _,v,x,k,r=>by unfold KH at k;exact k.elim
 | .obj _ _,v,x,k,r=>by unfold KH at k;exact k.elim
theorem sL.is (ok:jn P w H h):∀{us:List U} {vs:List V} {xs:List aak},sL H us vs->aV vs xs->eO h us xs
 | [],vs,xs,k,r=>by
  unfold sL at k;subst k;cases r;unfold eO;rfl
 |u::us,vs,xs,k,r=>by
  unfold sL at k;obtain⟨v,vr,rfl,p,z⟩:=k;cases r with
  |cons r1 r2=>
   unfold eO;exact⟨_,_,rfl,KH.is ok p r1,sL.is ok z r2⟩
end
def qU (H:Hp)(us:List U)(b:aaM):Prop:=zg us<=6/\∃ys,H b=some (.tup ys)/\us.length<=aah/\sL H us ys
theorem qU.tk (ok:jn P w H h)(k:qU H us b):TK h us b:=by
 obtain⟨l,ys,q,_,z⟩:=k;obtain⟨_,aD,rv,it,_⟩:=ok b _ q;exact⟨l,aD.toArray,it,by simpa using sL.is ok z rv⟩
theorem qU.to (e:∀b ys,H b=some (.tup ys)->H' b=some (.tup ys))(k:qU H us b):qU H' us b:=by
 obtain⟨l,ys,q,n,z⟩:=k;exact⟨l,ys,e b ys q,n,z.to e⟩
structure fF (H:Hp)(a:aaM)(es:List (List U×aaM×V)):Prop where
 ob:(∃ep,H a=some (DN a ep es))\/(es=[]/\H a=some (.dK []))
 nd:(es.map (·.1)).Nodup
 key:∀e∈es,qU H e.1 e.2.1
theorem lR {α β:Type}{R:α->β->Prop}:∀{xs:List α} {ys:List β} {y:β},adD R xs ys->y∈ys->∃x∈xs,R x y
 |_,_,_,.nil,h=>by cases h
 |x::xs,y'::ys,y,.cons r t,h=>by
  rcases aaw.mp h with e|h
  ·subst e;exact⟨x,aal,r⟩
  ·obtain⟨x',m,q⟩:=lR t h;exact⟨x',aan _ m,q⟩
theorem sM:∀{es:List (List U×aaM×V)} {xs:List (List U×aaM×aak)},adD CN es xs->es.map (·.1)=xs.map (·.1)
 |_,_,.nil=>rfl
 |_::_,_::_,.cons r t=>by rw[aag,aag,sM t,r.1]
theorem fF.of (ok:jn P w H h)(d:fF H a es):∃xs,adD CN es xs/\h.DictOfH (i8 P w) a xs:=by
 rcases d.ob with⟨ep,q⟩|⟨e,q⟩
 ·obtain⟨⟨_,o,ds,xs,h1,h2,h3,h4,h5⟩,_⟩:=ok a _ q;refine⟨xs,h4,o,ds,ep,h1,h2,h3,h5,λx hx=>?_,by rw[←sM h4];exact d.nd⟩;obtain⟨e,he,r⟩:=lR h4 hx;have:=(d.key e he).tk ok;rw[r.1,r.2.1] at this;exact this
 ·subst e;obtain⟨_,_,vs,rel,dd⟩:=ok a _ q;cases rel;obtain⟨o,ds,ep,h1,h2,h3,h4,h5,h6⟩:=dd;have e0:ds.toList=[]:=by
   generalize ds.toList=l at h5;cases h5;rfl
  exact⟨[],.nil,o,ds,ep,h1,h2,h3,by rw[e0];rfl,(λx hx=>by cases hx),acv⟩
theorem fF.lo (ok:jn P w H h)(d:fF H a es):(a==abF)=false:=by
 rcases d.ob with⟨ep,q⟩|⟨e,q⟩
 ·obtain⟨⟨l,_⟩,_⟩:=ok a _ q;exact l
 ·obtain⟨_,l,_⟩:=ok a _ q;exact l
noncomputable def jw (es:List (List U×aaM×V))(k:List U):Option V:=(es.find? λe=>decide (e.1=k)).map (·.2.2)
noncomputable def iC (es:List (List U×aaM×V))(k:List U)(b:aaM)(v:V):List (List U×aaM×V):=
 if (jw es k).isSome then es.map (λe=>if e.1=k then (e.1,e.2.1,v) else e) else es++[(k,b,v)]
theorem fZ (k:List U):∀{es:List (List U×aaM×V)} {xs:List (List U×aaM×aak)},adD CN es xs->mR (jw es k) ((atKey xs k).map (·.2))
 |_,_,.nil=>trivial
 |e::es,x::xs,.cons r t=>by
  have ih:=fZ k t;unfold jw atKey at ih ⊢;rw[aeD,aeD];by_cases c:e.1=k
  ·have c':x.1=k:=by rw[←r.1];exact c
   rw[hJ c,hJ c'];exact r.2.2
  ·have c':¬x.1=k:=by rw[←r.1];exact c
   rw[hV c,hV c'];exact ih
theorem sN (k:List U){u:aak}(rv:aL v u){xs:List (List U×aaM×aak)}(p:adD CN es xs):adD CN (iC es k b v) (storedH xs k b u):=by
 have e:=by
  have:=(fZ k p).isSome_eq;rw[ac8] at this;exact this
 unfold iC storedH;rw[e];split
 ·rename_i hh;clear hh e
  induction p with
  |nil=>exact .nil
  | @cons q x es xs r t ih=>
   refine .cons ?_ ih;unfold putAt;dsimp only;by_cases c:q.1=k
   ·have c':x.1=k:=by rw[←r.1];exact c
    rw[h9 c,h9 c'];exact⟨r.1,r.2.1,rv⟩
   ·have c':¬x.1=k:=by rw[←r.1];exact c
    rw[hZ c,hZ c'];exact r
 ·rename_i hh;clear hh e
  induction p with
  |nil=>exact .cons ⟨rfl,rfl,rv⟩ .nil
  |cons r t ih=>exact .cons r ih
end
section
variable {d:V}{r:aak}{k:List U}{A:aba}
theorem lU (hu:A.units+64<abI):(i8 X.prog X.w).room A.in1:=by show A.units+1+20<abI;lia
theorem EY (hu:A.units+64<abI)(I:aE X pins σ H s)(g:fF H a es)(kb:qU H k b)(e:jw es k=some v)(h:∀w' s',aE X pins σ H s'->aL v w'->Q w' s') :
  aaW (aa1 X.prog X.w) A (aft (.ref a) (.ref b)) Q E s:=by
 obtain⟨xs,rel,dd⟩:=g.of I.hok;obtain⟨w',hw,A7⟩:=mR.some_of (by rw[←e];exact fZ k rel);obtain⟨p,hp,Gh⟩:=ady.mp hw;refine wpAny_getItem_heap (lU hu) (kb.tk I.hok) dd hp ?_;rw[Gh];exact h w' _ (I.tok _) A7
theorem W2 (hu:A.units+64<abI)(I:aE X pins σ H s)(g:fF H a es)(kb:qU H k b)(h:∀s',aE X pins σ H s'->Q (.bool (jw es k).isSome) s') :
  aaW (aa1 X.prog X.w) A (abO .In (.ref b) (.ref a)) Q E s:=by
 obtain⟨xs,rel,dd⟩:=g.of I.hok;refine wpAny_in_heap (lU hu) (kb.tk I.hok) (g.lo I.hok) dd ?_;have q:=(fZ k rel).isSome_eq;rw[ac8] at q;rw[←q];exact h _ (I.tok _)
theorem LO (hu:A.units+64<abI)(I:aE X pins σ H s)(g:fF H a es)(kb:qU H k b)(h:∀s',aE X pins σ H s'->Q (.bool (!(jw es k).isSome)) s') :
  aaW (aa1 X.prog X.w) A (abO .NotIn (.ref b) (.ref a)) Q E s:=by
 obtain⟨xs,rel,dd⟩:=g.of I.hok;refine wpAny_notIn_heap (lU hu) (kb.tk I.hok) (g.lo I.hok) dd ?_;have q:=(fZ k rel).isSome_eq;rw[ac8] at q;rw[←q];exact h _ (I.tok _)
theorem QB (hu:A.units+64<abI)(I:aE X pins σ H s)(g:fF H a es)(kb:qU H k b)(rd:aL d r)(h:∀w' s',aE X pins σ H s'->aL ((jw es k).getD d) w'->Q w' s') :
  aaW (aa1 X.prog X.w) A (call (.builtin "dict.get") [.ref a,.ref b,r]) Q E s:=by
 obtain⟨xs,rel,dd⟩:=g.of I.hok;exact aep abR dd.typeIs aci (aeC _ _ _) (meetsH_dict_get_default _ a b (g.lo I.hok) r) ⟨lU hu,k,xs,kb.tk I.hok,dd,h _ _ (I.tok _) ((fZ k rel).getD rd)⟩
theorem QC (hu:A.units+64<abI)(I:aE X pins σ H s)(g:fF H a es)(kb:qU H k b)(h:∀w' s',aE X pins σ H s'->aL ((jw es k).getD .non) w'->Q w' s') :
  aaW (aa1 X.prog X.w) A (call (.builtin "dict.get") [.ref a,.ref b]) Q E s:=by
 obtain⟨xs,rel,dd⟩:=g.of I.hok;exact aep abR dd.typeIs aci (aeB _ _) (meetsH_dict_get _ a b (g.lo I.hok)) ⟨lU hu,k,xs,kb.tk I.hok,dd,h _ _ (I.tok _) ((fZ k rel).getD rfl)⟩
theorem fF.typeIs (I:aE X pins σ H s)(g:fF H a es):s.TypeIs (.ref a) "dict":=by
 obtain⟨xs,rel,dd⟩:=g.of I.hok;exact dd.typeIs
theorem fF.noDict (I:aE X pins σ H s)(g:fF H a es):∀b,Value.ref a=.ref b->∃ob,s.heap.get? b=some ob/\ob.dict=none:=λb q=>by
 cases q;obtain⟨xs,rel,ob,_,_,h1,h2,_⟩:=g.of I.hok;exact⟨ob,h1,h2.2.1⟩
theorem fF.mut (g:fF H a es):SV (H a):=by
 rcases g.ob with⟨ep,q⟩|⟨_,q⟩<;>(rw[q];exact True.intro)
theorem EZ {Q:Unit->aaD->Prop}(hu:A.units+64<abI)(I:aE X pins σ H s)(g:fF H a es)(kb:qU H k b)(hz:es.length<=aah)(rv:aL v r)(h:∀ep s',aE X pins σ (cT H a (DN a ep (iC es k b v))) s'->Q () s') :
  aaW (aa1 X.prog X.w) A (setItem (.ref a) (.ref b) r) Q E s:=by
 obtain⟨xs,rel,dd⟩:=g.of I.hok;refine wpAny_setItem_heap (hsz:=by rw[←adh rel];exact hz) (lU hu) (kb.tk I.hok) dd λh' Pw hs=>?_;obtain⟨q,ds,ep,hq,h2,h3,h4,_,h5⟩:=Pw;refine h ep _ ?_;refine rF I g.mut hs ⟨q,hq⟩ ⟨⟨g.lo I.hok,q,ds,_,hq,h2,h3,sN k rv rel,h4⟩,⟨q,hq⟩,λg1 g2 ⟨l,o,ds,xs,z1,z2⟩ kp=>⟨l,o,ds,xs,kp _ z1,z2⟩⟩
end
end L2
namespace L2
noncomputable def kU:Key->U
 | .inl i=>.int i
 | .inr x=>.str x
def xm (H:Hp)(a:aaM)(ks:List U)(xs:List V):Prop:=
 (∃aX:List (Key×V),H a=some (.dK aX)/\ks=aX.map (λp=>kU p.1)/\xs=aX.map (·.2)) \/
 ∃es:List (List U×aaM×V),es≠[]/\fF H a es/\ks=es.map (λp=>.tup p.1)/\xs=es.map (·.2.2)
noncomputable abbrev T8:=xm
def xm.at (h:T8 H a ks xs):xm H a ks xs:=h
theorem fF.ne (h:fF H a es)(n:es≠[]):∃ep,H a=some (DN a ep es):=by
 rcases h.ob with q|⟨e,_⟩
 ·exact q
 ·exact absurd e n
def LP (K:aai)(H:Hp)(a:aaM)(xs:List V):Prop:=(∃o,H a=some (.frz o (.lst xs))) \/
  ∃(o:Obj) (aD:Array aak) (n:Nat),K.lookup a=some o/\o.cls=.type "list"/\o.dict=none/\o.data=.seq aD n/\aD.size<=aah/\aV xs aD.toList
theorem LP.sq (h:LP K H a xs):fX K H a xs:=by
 rcases h with⟨o,h⟩|h
 ·exact .inl (.inr ⟨o,h⟩)
 ·exact .inr h
theorem LP.to (h:LP K H a xs)(e:∀o y,H a=some (.frz o y)->H' a=some (.frz o y)):LP K H' a xs:=by
 rcases h with⟨o,h⟩|h
 ·exact .inl ⟨o,e _ _ h⟩
 ·exact .inr h
structure CO (K:aai)(C:aaM)(fs:List Str):Prop where
 cl:Gi K C
 no:∀f∈fs,Qg K C f
 nd:fs.Nodup
mutual
def Rp (K:aai)(H:Hp)(A:aaM->Prop):U->V->Prop
 | .non,v=>v=.non
 | .bl b,v=>v=.bl b
 | .int i,v=>v=.int i
 | .str x,v=>v=.str x
 | .tup us,v=>∃a xs,v=.ref a/\H a=some (.tup xs)/\us.length<=aah/\aS K H A us xs
 | .lst us,v=>∃a xs,v=.ref a/\¬A a/\H a=some (.lst xs)/\us.length<=aah/\aS K H A us xs
 | .dct ks us,v=>∃a xs,v=.ref a/\¬A a/\xm H a ks xs/\us.length<=aah/\aS K H A us xs
 | .scr us,v=>∃a xs,v=.ref a/\LP K H a xs/\us.length<=aah/\aS K H A us xs
 | .obj fs us,v=>∃a C dx xs,v=.ref a/\H a=some (.ins C dx (fs.zip xs))/\CO K C fs/\us.length=fs.length/\aS K H A us xs
def aS (K:aai)(H:Hp)(A:aaM->Prop):List U->List V->Prop
 | [],xs=>xs=[]
 |u::us,xs=>∃x r,xs=x::r/\Rp K H A u x/\aS K H A us r
end
def lE (K:aai)(H:Hp)(A:aaM->Prop):U->aaM->Prop
 | .lst us,a=>∃xs,H a=some (.lst xs)/\us.length<=aah/\aS K H A us xs
 | .dct ks us,a=>∃xs,T8 H a ks xs/\us.length<=aah/\aS K H A us xs
 |_,_=>False
def Pk (K:aai)(H:Hp)(A:aaM->Prop):U->V->Prop
 | .non,v=>v=.non
 | .bl b,v=>v=.bl b
 | .int i,v=>v=.int i
 | .str x,v=>v=.str x
 | .tup us,v=>∃a xs,v=.ref a/\H a=some (.tup xs)/\us.length<=aah/\aS K H A us xs
 | .lst us,v=>∃a xs,v=.ref a/\H a=some (.lst xs)/\us.length<=aah/\aS K H A us xs
 | .dct ks us,v=>∃a xs,v=.ref a/\xm H a ks xs/\us.length<=aah/\aS K H A us xs
 | .scr us,v=>∃a xs,v=.ref a/\LP K H a xs/\us.length<=aah/\aS K H A us xs
 | .obj fs us,v=>∃a C dx xs,v=.ref a/\H a=some (.ins C dx (fs.zip xs))/\CO K C fs/\us.length=fs.length/\aS K H A us xs
def Mu:Option HO->Prop
 |some (.lst _)=>True
 |some (.dK _)=>True
 |some (.dT _)=>True
 |some (.ext _)=>True
 |_=>False
theorem Mu.ex {o:Option HO}(h:Mu o):∃x,o=.some x:=by
 cases o with
 |none=>exact h.elim
 |some x=>exact⟨x,rfl⟩
def eQ (A:aaM->Prop)(H H':Hp):Prop:=∀b o,¬A b->H b=some o->H' b=some o
def eQ.refl:eQ A H H:=λ_ _ _ h=>h
def eQ.trans (a:eQ A H H1)(b:eQ A H1 H2):eQ A H H2:=λc o n h=>b c o n (a c o n h)
def eQ.same (h:aJ H H'):eQ A H H':=λb o _ e=>h b o e
section
variable {A':aaM->Prop}
theorem xm.ex (h:xm H a ks xs):∃o,H a=some o:=by
 rcases h with⟨k,h,_⟩|⟨k,n,h,_⟩
 ·exact⟨_,h⟩
 ·obtain⟨ep,q⟩:=h.ne n;exact⟨_,q⟩
theorem xm.to (h:xm H a ks xs)(e:∀o,H a=some o->H' a=some o)(t:∀b ys,H b=some (.tup ys)->H' b=some (.tup ys)):xm H' a ks xs:=by
 rcases h with⟨k,h,z⟩|⟨k,n,h,z⟩
 ·exact .inl ⟨k,e _ h,z⟩
 ·exact .inr ⟨k,n,⟨h.ob.imp (fun⟨ep,q⟩=>⟨ep,e _ q⟩) (λq=>⟨q.1,e _ q.2⟩),h.nd,λy hy=>(h.key y hy).to t⟩,z⟩
mutual
theorem Rp.re (m:∀b,A b->Mu (H b))(e:eQ A H H')(n:∀b,A' b->A b\/H b=none):∀{u:U} {v:V},Rp K H A u v->Rp K H' A' u v
 | .non,v,h=>by unfold Rp at h ⊢;exact h
 | .bl b,v,h=>by unfold Rp at h ⊢;exact h
 | .int b,v,h=>by unfold Rp at h ⊢;exact h
 | .str b,v,h=>by unfold Rp at h ⊢;exact h
 | .tup us,v,h=>by
  unfold Rp at h ⊢;obtain⟨a,xs,r,q,l,z⟩:=h;exact⟨a,xs,r,e a _ (λz=>by have:=m a z;rw[q] at this;exact this) q,l,aS.re m e n z⟩
 | .lst us,v,h=>by
  unfold Rp at h ⊢;obtain⟨a,xs,r,na,q,l,z⟩:=h;refine⟨a,xs,r,λy=>?_,e a _ na q,l,aS.re m e n z⟩;rcases n a y with y|y
  ·exact na y
  ·rw[q] at y;cases y
 | .scr us,v,h=>by
  unfold Rp at h ⊢;obtain⟨a,xs,r,q,l,z⟩:=h;exact⟨a,xs,r,q.to λo y w=>e a _ (λz=>by have:=m a z;rw[w] at this;exact this) w,l,aS.re m e n z⟩
 | .obj fs us,v,h=>by
  unfold Rp at h ⊢;obtain⟨a,C,dx,xs,r,q,c,l,z⟩:=h;exact⟨a,C,dx,xs,r,e a _ (λz=>by have:=m a z;rw[q] at this;exact this) q,c,l,aS.re m e n z⟩
 | .dct ks us,v,h=>by
  unfold Rp at h ⊢;obtain⟨a,xs,r,na,q,l,z⟩:=h;refine⟨a,xs,r,λy=>?_,q.to (λo w=>e a o na w) (λb ys w=>e b _ (λy=>by have:=m b y;rw[w] at this;exact this) w),l,aS.re m e n z⟩;obtain⟨o,w⟩:=q.ex;rcases n a y with y|y
  ·exact na y
  ·rw[w] at y;cases y
theorem aS.re (m:∀b,A b->Mu (H b))(e:eQ A H H')(n:∀b,A' b->A b\/H b=none):∀{us:List U} {vs:List V},aS K H A us vs->aS K H' A' us vs
 | [],vs,h=>by unfold aS at h ⊢;exact h
 |u::us,vs,h=>by
  unfold aS at h ⊢;obtain⟨x,r,q,p,z⟩:=h;exact⟨x,r,q,Rp.re m e n p,aS.re m e n z⟩
end
mutual
theorem Rp.mono (n:∀b,A' b->A b):∀{u:U} {v:V},Rp K H A u v->Rp K H A' u v
 | .non,v,h=>by unfold Rp at h ⊢;exact h
 | .bl b,v,h=>by unfold Rp at h ⊢;exact h
 | .int b,v,h=>by unfold Rp at h ⊢;exact h
 | .str b,v,h=>by unfold Rp at h ⊢;exact h
 | .tup us,v,h=>by
  unfold Rp at h ⊢;obtain⟨a,xs,r,q,l,z⟩:=h;exact⟨a,xs,r,q,l,aS.mono n z⟩
 | .lst us,v,h=>by
  unfold Rp at h ⊢;obtain⟨a,xs,r,na,q,l,z⟩:=h;exact⟨a,xs,r,λy=>na (n a y),q,l,aS.mono n z⟩
 | .scr us,v,h=>by
  unfold Rp at h ⊢;obtain⟨a,xs,r,q,l,z⟩:=h;exact⟨a,xs,r,q,l,aS.mono n z⟩
 | .obj fs us,v,h=>by
  unfold Rp at h ⊢;obtain⟨a,C,dx,xs,r,q,c,l,z⟩:=h;exact⟨a,C,dx,xs,r,q,c,l,aS.mono n z⟩
 | .dct ks us,v,h=>by
  unfold Rp at h ⊢;obtain⟨a,xs,r,na,q,l,z⟩:=h;exact⟨a,xs,r,λy=>na (n a y),q,l,aS.mono n z⟩
theorem aS.mono (n:∀b,A' b->A b):∀{us:List U} {vs:List V},aS K H A us vs->aS K H A' us vs
 | [],vs,h=>by unfold aS at h ⊢;exact h
 |u::us,vs,h=>by
  unfold aS at h ⊢;obtain⟨x,r,q,p,z⟩:=h;exact⟨x,r,q,Rp.mono n p,aS.mono n z⟩
end
mutual
theorem Rp.same (e:aJ H H'):∀{u:U} {v:V},Rp K H A u v->Rp K H' A u v
 | .non,v,h=>by unfold Rp at h ⊢;exact h
 | .bl b,v,h=>by unfold Rp at h ⊢;exact h
 | .int b,v,h=>by unfold Rp at h ⊢;exact h
 | .str b,v,h=>by unfold Rp at h ⊢;exact h
 | .tup us,v,h=>by
  unfold Rp at h ⊢;obtain⟨a,xs,r,q,l,z⟩:=h;exact⟨a,xs,r,e a _ q,l,aS.same e z⟩
 | .lst us,v,h=>by
  unfold Rp at h ⊢;obtain⟨a,xs,r,na,q,l,z⟩:=h;exact⟨a,xs,r,na,e a _ q,l,aS.same e z⟩
 | .scr us,v,h=>by
  unfold Rp at h ⊢;obtain⟨a,xs,r,q,l,z⟩:=h;exact⟨a,xs,r,q.to λo y w=>e a _ w,l,aS.same e z⟩
 | .obj fs us,v,h=>by
  unfold Rp at h ⊢;obtain⟨a,C,dx,xs,r,q,c,l,z⟩:=h;exact⟨a,C,dx,xs,r,e a _ q,c,l,aS.same e z⟩
 | .dct ks us,v,h=>by
  unfold Rp at h ⊢;obtain⟨a,xs,r,na,q,l,z⟩:=h;exact⟨a,xs,r,na,q.to (λo w=>e a o w) (λb ys w=>e b _ w),l,aS.same e z⟩
theorem aS.same (e:aJ H H'):∀{us:List U} {vs:List V},aS K H A us vs->aS K H' A us vs
 | [],vs,h=>by unfold aS at h ⊢;exact h
 |u::us,vs,h=>by
  unfold aS at h ⊢;obtain⟨x,r,q,p,z⟩:=h;exact⟨x,r,q,Rp.same e p,aS.same e z⟩
end
theorem aS.length:∀{us:List U} {vs:List V},aS K H A us vs->us.length=vs.length
 | [],_,h=>by subst h;rfl
 |u::us,_,h=>by
  obtain⟨x,r,rfl,_,q⟩:=h;rw[aat,aat,aS.length q]
theorem aS.get:∀{us:List U} {vs:List V} {i:Nat} {u:U},aS K H A us vs->us[i]? = some u->∃v,vs[i]? = some v/\Rp K H A u v
 | [],_,_,_,_,e=>by simp at e
 |w::us,_,i,u,h,e=>by
  obtain⟨x,r,rfl,p,q⟩:=h;cases i with
  |zero=>simp at e;subst e;exact⟨x,by simp,p⟩
  |succ i=>
   obtain⟨v,a,b⟩:=aS.get q (by simpa using e);exact⟨v,by simpa using a,b⟩
def aS.nil:aS K H A [] []:=by rfl
def aS.cons (h:Rp K H A u v)(t:aS K H A us vs):aS K H A (u::us) (v::vs):=by exact⟨v,vs,rfl,h,t⟩
theorem aS.append:∀{us ws:List U} {vs xs:List V},aS K H A us vs->aS K H A ws xs->aS K H A (us++ws) (vs++xs)
 | [],ws,vs,xs,h,t=>by subst h;exact t
 |u::us,ws,vs,xs,h,t=>by
  obtain⟨x,r,rfl,p,q⟩:=h;exact aS.cons p (aS.append q t)
theorem aS.take:∀{us:List U} {vs:List V} (n:Nat),aS K H A us vs->aS K H A (us.take n) (vs.take n)
 | [],vs,n,h=>by subst h;simp;exact aS.nil
 |u::us,vs,0,h=>by exact aS.nil
 |u::us,vs,n+1,h=>by
  obtain⟨x,r,rfl,p,q⟩:=h;exact aS.cons p (aS.take n q)
theorem aS.drop:∀{us:List U} {vs:List V} (n:Nat),aS K H A us vs->aS K H A (us.drop n) (vs.drop n)
 | [],vs,n,h=>by subst h;simp;exact aS.nil
 |u::us,vs,0,h=>h
 |u::us,vs,n+1,h=>by
  obtain⟨x,r,rfl,p,q⟩:=h;exact aS.drop n q
theorem aS.set:∀{us:List U} {vs:List V} (n:Nat) {u:U} {v:V},Rp K H A u v->aS K H A us vs->aS K H A (us.set n u) (vs.set n v)
 | [],vs,n,_,_,_,h=>by subst h;exact aS.nil
 |u::us,vs,0,_,_,p',h=>by
  obtain⟨x,r,rfl,p,q⟩:=h;exact aS.cons p' q
 |u::us,vs,n+1,_,_,p',h=>by
  obtain⟨x,r,rfl,p,q⟩:=h;exact aS.cons p (aS.set n p' q)
theorem Rp.pk (h:Rp K H A u v):Pk K H A u v:=by
 cases u<;>(unfold Pk)
 case lst us=>obtain⟨a,xs,r,na,q⟩:=h;exact⟨a,xs,r,q⟩
 case dct ks us=>obtain⟨a,xs,r,na,q⟩:=h;exact⟨a,xs,r,q⟩
 all_goals exact h
theorem Pk.same (e:aJ H H')(h:Pk K H A u v):Pk K H' A u v:=by
 cases u<;>(unfold Pk at h ⊢)
 case tup us=>obtain⟨a,xs,r,q,l,z⟩:=h;exact⟨a,xs,r,e a _ q,l,z.same e⟩
 case lst us=>obtain⟨a,xs,r,q,l,z⟩:=h;exact⟨a,xs,r,e a _ q,l,z.same e⟩
 case scr us=>obtain⟨a,xs,r,q,l,z⟩:=h;exact⟨a,xs,r,q.to λo y w=>e a _ w,l,z.same e⟩
 case obj fs us=>obtain⟨a,C,dx,xs,r,q,c,l,z⟩:=h;exact⟨a,C,dx,xs,r,e a _ q,c,l,z.same e⟩
 case dct ks us=>obtain⟨a,xs,r,q,l,z⟩:=h;exact⟨a,xs,r,q.to (λo w=>e a o w) (λb ys w=>e b _ w),l,z.same e⟩
 all_goals exact h
theorem lE.pk (h:lE K H A u a):Pk K H A u (.ref a):=by
 cases u<;>(unfold Pk)
 case lst us=>obtain⟨xs,q,l,z⟩:=h;exact⟨a,xs,rfl,q,l,z⟩
 case dct ks us=>obtain⟨xs,q,l,z⟩:=h;exact⟨a,xs,rfl,q.at,l,z⟩
 all_goals exact h.elim
theorem lE.rp (h:lE K H A u a)(n:∀b,A' b->A b)(na:¬A' a):Rp K H A' u (.ref a):=by
 cases u<;>(unfold Rp)
 case lst us=>obtain⟨xs,q,l,z⟩:=h;exact⟨a,xs,rfl,na,q,l,z.mono n⟩
 case dct ks us=>obtain⟨xs,q,l,z⟩:=h;exact⟨a,xs,rfl,na,q.at,l,z.mono n⟩
 all_goals exact h.elim
theorem lE.re (m:∀b,A b->Mu (H b))(e:eQ A H H')(n:∀b,A' b->A b\/H b=none)(ea:∀o,H a=some o->H' a=some o)(h:lE K H A u a):lE K H' A' u a:=by
 cases u<;>(unfold lE at h ⊢)
 case lst us=>obtain⟨xs,q,l,z⟩:=h;exact⟨xs,ea _ q,l,z.re m e n⟩
 case dct ks us=>obtain⟨xs,q,l,z⟩:=h;exact⟨xs,q.to ea (λb ys w=>e b _ (λy=>by have:=m b y;rw[w] at this;exact this) w),l,z.re m e n⟩
 all_goals exact h.elim
theorem lE.mu (h:lE K H A u a):Mu (H a):=by
 cases u<;>(unfold lE at h)
 case lst us=>obtain⟨xs,q,_⟩:=h;rw[q];trivial
 case dct ks us=>
  obtain⟨xs,q,_⟩:=h;rcases q with⟨k,q,_⟩|⟨k,n,q,_⟩
  ·rw[q];trivial
  ·obtain⟨ep,q⟩:=q.ne n;rw[q];trivial
 all_goals exact h.elim
end
structure Pkg where
 A0:aaM->Prop
 B:Hp
 a0:aaM
structure Gm where
 own:List Bool
 io:Bool
 W:Hp->Prop
noncomputable def Gm.is (G:Gm)(i:Nat):Bool:=G.own.getD i false
structure cL (K:aai)(G:Gm)(Z:Pkg)(A:aaM->Prop)(ρ:Ev)(σ:St)(H:Hp):Prop where
 slot:∀i u,ρ[i]? = some (some u)->∃v,σ[i]? = some (some v)/\if G.is i=true then (∃a,v=.ref a/\A a/\Z.B a=none/\(¬Z.A0 a\/(G.io=true/\i=0))/\lE K H A u a) else Rp K H A u v
 dis:∀i j u w a,G.is i=true->G.is j=true->i≠j->ρ[i]? = some (some u)->ρ[j]? = some (some w)->σ[i]? = some (some (.ref a))->σ[j]? = some (some (.ref a))->False
 mu:∀a,A a->Mu (H a)
 sup:∀a,Z.A0 a->A a
 out:∀a,A a->Z.A0 a\/Z.B a=none
 bas:∀a o,Z.B a=some o->H a=some o
 io0:G.io=true->σ[0]? = some (some (.ref Z.a0))/\G.is 0=true
 len:ρ.length=σ.length
section
variable {A':aaM->Prop}{G:Gm}{Z:Pkg}{ρ':Ev}
theorem cL.same (r:cL K G Z A ρ σ H)(e:aJ H H'):cL K G Z A ρ σ H' where
 slot:=λi u h=>by
  obtain⟨v,h1,h2⟩:=r.slot i u h;refine⟨v,h1,?_⟩;by_cases c:G.is i=true
  ·rw[h9 c] at h2 ⊢;obtain⟨a,e1,e2,e3,e4,e5⟩:=h2;exact⟨a,e1,e2,e3,e4,e5.re r.mu (eQ.same e) (λb z=>.inl z) λo w=>e a o w⟩
  ·rw[hZ c] at h2 ⊢;exact h2.same e
 dis:=r.dis
 mu:=λa h=>by
  have m:=r.mu a h;obtain⟨o,q⟩:=m.ex;rw[e a o q,←q];exact m
 sup:=r.sup
 out:=r.out
 bas:=λa o h=>e a o (r.bas a o h)
 io0:=r.io0
 len:=r.len
theorem cL.add (r:cL K G Z A ρ σ H)(e:aJ H H')(n:H a=none)(m:Mu (H' a)):cL K G Z (λb=>A b\/b=a) ρ σ H' where
 slot:=λi u h=>by
  have q:∀b,(A b\/b=a)->A b\/H b=none:=λb z=>by
   rcases z with z|z
   ·exact .inl z
   ·subst z;exact .inr n
  obtain⟨v,h1,h2⟩:=r.slot i u h;refine⟨v,h1,?_⟩;by_cases c:G.is i=true
  ·rw[h9 c] at h2 ⊢;obtain⟨b,e1,e2,e3,e4,e5⟩:=h2;exact⟨b,e1,.inl e2,e3,e4,e5.re r.mu (eQ.same e) q λo w=>e b o w⟩
  ·rw[hZ c] at h2 ⊢;exact h2.re r.mu (eQ.same e) q
 dis:=r.dis
 mu:=λb h=>by
  rcases h with h|h
  ·exact (r.same e).mu b h
  ·subst h;exact m
 sup:=λb h=>.inl (r.sup b h)
 out:=λb h=>by
  rcases h with h|h
  ·exact r.out b h
  ·subst h;refine .inr ?_;cases q:Z.B b with
   |none=>rfl
   |some o=>rw[r.bas b o q] at n;cases n
 bas:=λa o h=>e a o (r.bas a o h)
 io0:=r.io0
 len:=r.len
def cL.notA (r:cL K G Z A ρ σ H)(n:H a=none):¬A a:=λz=>by
 have:=r.mu a z;rw[n] at this;exact this
theorem cL.notB (r:cL K G Z A ρ σ H)(n:H a=none):Z.B a=none:=by
 cases q:Z.B a with
 |none=>rfl
 |some o=>rw[r.bas a o q] at n;cases n
theorem cL.val (r:cL K G Z A ρ σ H)(c:G.is i=false)(h:ρ[i]? = some (some u)):∃v,σ[i]? = some (some v)/\Rp K H A u v:=by
 obtain⟨v,h1,h2⟩:=r.slot i u h;rw[hZ (by rw[c];exact aaz)] at h2;exact⟨v,h1,h2⟩
theorem cL.own (r:cL K G Z A ρ σ H)(c:G.is i=true)(h:ρ[i]? = some (some u)):∃a,σ[i]? = some (some (.ref a))/\A a/\Z.B a=none/\(¬Z.A0 a\/(G.io=true/\i=0))/\lE K H A u a:=by
 obtain⟨v,h1,h2⟩:=r.slot i u h;rw[h9 c] at h2;obtain⟨a,rfl,z⟩:=h2;exact⟨a,h1,z⟩
end
end L2
variable {Z:L2.Pkg}{G:L2.Gm}
namespace L2
inductive Md where
 |S|O|P
 deriving DecidableEq
def vk (K:aai)(G:Gm)(Z:Pkg)(m:Md)(A:aaM->Prop)(ρ:Ev)(σ:St)(H:Hp)(u:U)(v:V):Prop:=match m with
 | .S=>Rp K H A u v
 | .P=>Pk K H A u v
 | .O=>∃a,v=.ref a/\¬A a/\Z.B a=none/\cL K G Z (λb=>A b\/b=a) ρ σ H/\lE K H (λb=>A b\/b=a) u a
def CP (K:aai)(m:Md)(A:aaM->Prop)(H H':Hp)(u:U)(v:V):Prop:=match m with
 | .S=>Rp K H' A u v
 | .P=>Pk K H' A u v
 | .O=>∃a,v=.ref a/\H a=none/\lE K H' (λb=>A b\/b=a) u a
def LQ (K:aai)(G:Gm)(Z:Pkg)(A:aaM->Prop)(b:Bool)(m:Md)(ρ:Ev)(σ:St)(H:Hp):R (U×Ev)->VK->Prop
 | .ok (u,ρ'),Q=>∀v H',cL K G Z A ρ' σ H'->eQ A H H'->(b=false->ρ'=ρ/\aJ H H')->vk K G Z m A ρ' σ H' u v->Q v H'
 |_,_=>False
def tD (K:aai)(G:Gm)(b:Bool)(m:Md)(g:Ev->R (U×Ev)):TE:=λσ H Q=>∃Z A ρ,cL K G Z A ρ σ H/\LQ K G Z A b m ρ σ H (g ρ) Q
structure DE (X:Cx)(G:Gm)(e:aca)(b:Bool)(m:Md)(g:Ev->R (U×Ev)):Prop where
 un:PE X e (tD X.K G b m g)
def LS (K:aai)(G:Gm)(Z:Pkg)(A:aaM->Prop)(b:Bool)(ρ:Ev)(σ:St)(H:Hp):R (Bool×Ev)->(Bool->Hp->Prop)->Prop
 | .ok (c,ρ'),Q=>∀H',cL K G Z A ρ' σ H'->eQ A H H'->(b=false->ρ'=ρ/\aJ H H')->Q c H'
 |_,_=>False
def Gj (K:aai)(G:Gm)(b:Bool)(g:Ev->R (Bool×Ev)):TT:=λσ H Q=>∃Z A ρ,cL K G Z A ρ σ H/\LS K G Z A b ρ σ H (g ρ) Q
structure DT (X:Cx)(G:Gm)(e:aca)(b:Bool)(g:Ev->R (Bool×Ev)):Prop where
 un:PT X e (Gj X.K G b g)
def K9 (K:aai)(H:Hp)(A:aaM->Prop):List U->List V->Prop
 | [],vs=>vs=[]
 |u::us,vs=>∃x r,vs=x::r/\Pk K H A u x/\K9 K H A us r
def SY (K:aai)(p:Bool)(A:aaM->Prop)(H:Hp)(us:List U)(vs:List V):Prop:=if p=true then K9 K H A us vs else aS K H A us vs
def LU (K:aai)(G:Gm)(Z:Pkg)(A:aaM->Prop)(b p:Bool)(ρ:Ev)(σ:St)(H:Hp):R (List U×Ev)->(List V->Hp->Prop)->Prop
 | .ok (us,ρ'),Q=>∀vs H',cL K G Z A ρ' σ H'->eQ A H H'->(b=false->ρ'=ρ/\aJ H H')->SY K p A H' us vs->Q vs H'
 |_,_=>False
def W3 (K:aai)(G:Gm)(b p:Bool)(g:Ev->R (List U×Ev)):TA:=λσ H Q=>∃Z A ρ,cL K G Z A ρ σ H/\LU K G Z A b p ρ σ H (g ρ) Q
structure DA (X:Cx)(G:Gm)(es:List aca)(b p:Bool)(g:Ev->R (List U×Ev)):Prop where
 un:PA X es (W3 X.K G b p g)
section
variable {e:aca}{t t':TE}
def PE.to (h:PE X e t)(i:∀σ H Q,t' σ H Q->t σ H Q):PE X e t':=λpins s σ H Q I q=>h pins s σ H Q I (i _ _ _ q)
def PT.to {t t':TT}(h:PT X e t)(i:∀σ H Q,t' σ H Q->t σ H Q):PT X e t':=λpins s σ H Q I q=>h pins s σ H Q I (i _ _ _ q)
def PW.to {t t':TT}(h:PW X e t)(i:∀σ H Q,t' σ H Q->t σ H Q):PW X e t':=λoM pins s σ H Q I q=>h oM pins s σ H Q I (i _ _ _ q)
def PA.to {es:List aca}{t t':TA}(h:PA X es t)(i:∀σ H Q,t' σ H Q->t σ H Q):PA X es t':=λpos pins s σ H Q I q=>h pos pins s σ H Q I (i _ _ _ q)
def PS.to {t t':TS}(h:PS X st t)(i:∀D σ H,t' D σ H->t D σ H):PS X st t':=λpins s σ H D I q=>h pins s σ H D I (i _ _ _ q)
def vc.to {st:List aeO}{t t':TS}(h:vc X st t)(i:∀D σ H,t' D σ H->t D σ H):vc X st t':=λpins s σ H D I q=>h pins s σ H D I (i _ _ _ q)
def PG.to {t t':TG}(h:PG X e t)(i:∀v σ H Q,t' v σ H Q->t v σ H Q):PG X e t':=λpins s σ H v u Q I r q=>h pins s σ H v u Q I r (i _ _ _ _ q)
end
section
variable {A':aaM->Prop}{ρ':Ev}{m:Md}{b:Bool}
theorem vk.rp (h:vk K G Z m A ρ σ H u v)(n:m≠.P):Rp K H A u v:=by
 cases m with
 |S=>exact h
 |O=>
  obtain⟨a,rfl,na,_,_,t⟩:=h;exact t.rp (λb z=>.inl z) na
 |P=>exact absurd rfl n
theorem vk.pk (h:vk K G Z m A ρ σ H u v):Pk K H A u v:=by
 by_cases c:m=.P
 ·subst c;exact h
 ·exact (h.rp c).pk
theorem CP.e (r:cL K G Z A ρ σ H)(s:aJ H H')(h:CP K m A H H' u v):vk K G Z m A ρ σ H' u v:=by
 cases m with
 |S=>exact h
 |P=>exact h
 |O=>
  obtain⟨a,rfl,n,t⟩:=h;exact⟨a,rfl,r.notA n,r.notB n,r.add s n t.mu,t⟩
def vk.later (r:cL K G Z A ρ σ H)(h:vk K G Z m A ρ σ H u v)(x:eQ A H H')(s:b=false->ρ'=ρ/\aJ H H')(c:m=.P->b=false):Pk K H' A u v:=by
 by_cases d:m=.P
 ·exact h.pk.same (s (c d)).2
 ·exact ((h.rp d).re r.mu x λb z=>.inl z).pk
def vk.laterS (r:cL K G Z A ρ σ H)(h:vk K G Z m A ρ σ H u v)(x:eQ A H H')(d:m≠.P):Rp K H' A u v:=(h.rp d).re r.mu x λb z=>.inl z
theorem two {b1 b2:Bool}{ρ1 ρ2:Ev}(h1:b1=false->ρ1=ρ/\aJ H H1)(h2:b2=false->ρ2=ρ1/\aJ H1 H2):(b1||b2)=false->ρ2=ρ/\aJ H H2:=λh=>by
 rw[ac6] at h;obtain⟨a,b⟩:=h1 h.1;obtain⟨c,d⟩:=h2 h.2;exact⟨c.trans a,b.trans d⟩
def oV {b1:Bool}{ρ1:Ev}(h1:b1=false->ρ1=ρ/\aJ H H1)(h2:aJ H1 H2):b1=false->ρ1=ρ/\aJ H H2:=λh=>⟨(h1 h).1,(h1 h).2.trans h2⟩
end
noncomputable def ae (i:Nat):Ev->R (U×Ev):=λρ=>match ρ[i]? with
 |some (some u)=>.ok (u,ρ)
 |_=>.stk
noncomputable def gC (u:U):Ev->R (U×Ev):=λρ=>.ok (u,ρ)
section
variable {e a b:aca}{es:List aca}
theorem T9 {b:Bool}{m:Md}(h:PE X e (PR i))(c:G.is i=false):DE X G e false .S (ae i):=by
 refine⟨h.to λσ H Q ⟨Z,A,ρ,r,f⟩=>?_⟩;unfold ae at f;split at f
 ·rename_i u hu;obtain⟨v,h1,h2⟩:=r.val c hu;exact⟨v,h1,f v H r eQ.refl (λ_=>⟨rfl,aJ.refl _⟩) h2⟩
 ·exact f.elim
def aj (i:Nat)(hN:X.N[i]? = some x:=by rfl)(hv:Gu X.env.scope x:=by first|exact Or.inl rfl|exact Or.inr (Or.inl rfl)|exact Or.inr (Or.inr rfl))(hd:(x==("__debug__":Str))=false:=by decide)
  (oJ:(x==("__classdict__":Str))=false:=by decide) (c:G.is i=false:=by rfl):DE X G (.Name x pos) false .S (ae i):=T9 (b:=false) (m:=.S) (jo hN hv hd oJ) c
theorem dH (i:Nat)(hN:X.N[i]? = some x:=by rfl)(hv:Gu X.env.scope x:=by first|exact Or.inl rfl|exact Or.inr (Or.inl rfl)|exact Or.inr (Or.inr rfl))(hd:(x==("__debug__":Str))=false:=by decide)
  (oJ:(x==("__classdict__":Str))=false:=by decide) (c:G.is i=true:=by rfl):DE X G (.Name x pos) false .P (ae i):=by
 refine⟨(jo hN hv hd oJ).to λσ H Q ⟨Z,A,ρ,r,f⟩=>?_⟩;unfold ae at f;split at f
 ·rename_i u hu;obtain⟨a,h1,_,_,_,h2⟩:=r.own c hu;exact⟨.ref a,h1,f _ H r eQ.refl (λ_=>⟨rfl,aJ.refl _⟩) h2.pk⟩
 ·exact f.elim
def LV (h:PE X e (tC v))(r:∀K H A,Rp K H A u v):DE X G e false .S (gC u):=by
 refine⟨h.to λσ H Q ⟨Z,A,ρ,q,f⟩=>?_⟩;exact f v H q eQ.refl (λ_=>⟨rfl,aJ.refl _⟩) (r _ _ _)
def aA {i j pos}:DE X G (.Constant (.int i) j pos) false .S (gC (.int i)):=LV PV λ_ _ _=>by rfl
def gY {i j pos}:DE X G (.Constant (.bool i) j pos) false .S (gC (.bl i)):=LV NI λ_ _ _=>by rfl
def xn {j pos}:DE X G (.Constant .none j pos) false .S (gC .non):=LV Gw λ_ _ _=>by rfl
def ke {i:Int}{tk:Tok}(hg:Gl X x)(hm:X.mg x=some (.int i tk))(hd:(x==("__debug__":Str))=false:=by decide):DE X G (.Name x pos) false .S (gC (.int i)):=LV (v:=.int i) (w6 hg hm ⟨_,rfl⟩ hd) λ_ _ _=>by rfl
noncomputable def bb (p:U->U->R U)(g1 g2:Ev->R (U×Ev)):Ev->R (U×Ev):=λρ=>(g1 ρ).bind λx=>(g2 x.2).bind λy=>(p x.1 y.1).bind λz=>.ok (z,y.2)
def fz (K:aai)(r:R2)(m:Md)(p:U->U->R U):Prop:=∀A H x y u w z Q,Pk K H A u x->Pk K H A w y->(∀a,A a->Mu (H a))->p u w=.ok z->(∀v H',aJ H H'->CP K m A H H' z v->Q v H')->r x y H Q
variable {b1 b2 b3:Bool}{m1 m2 m3 mr:Md}{g1 g2 g3:Ev->R (U×Ev)}
theorem m6 {p:U->U->R U}(hp:fz X.K r mr p)(hm:m1=.P->b2=false){Q:VK}(h:tD X.K G (b1||b2) mr (bb p g1 g2) σ H Q) :
  Tv r (tD X.K G b1 m1 g1) (tD X.K G b2 m2 g2) σ H Q:=by
 obtain⟨Z,A,ρ,q,f⟩:=h;unfold bb at f;refine⟨Z,A,ρ,q,?_⟩;cases e1:g1 ρ with
 |stk=>rw[e1] at f;exact f.elim
 |exc=>rw[e1] at f;exact f.elim
 |ok x=>
  obtain⟨u,ρ1⟩:=x;rw[e1] at f;intro v1 H1 q1 x1 s1 pZ;refine⟨Z,A,ρ1,q1,?_⟩;cases e2:g2 ρ1 with
  |stk=>simp only[R.bind,e2] at f;exact f.elim
  |exc=>simp only[R.bind,e2] at f;exact f.elim
  |ok y=>
   obtain⟨w,ρ2⟩:=y;simp only[R.bind,e2] at f;intro v2 H2 q2 x2 s2 wX;cases e3:p u w with
   |stk=>rw[e3] at f;exact f.elim
   |exc=>rw[e3] at f;exact f.elim
   |ok z=>
    rw[e3] at f;refine hp A H2 v1 v2 u w z Q (pZ.later q1 x2 s2 hm) wX.pk q2.mu e3 λv H' sm vm=>?_;exact f v H' (q2.same sm) ((x1.trans x2).trans (eQ.same sm)) (oV (two s1 s2) sm) (vm.e q2 sm)
def aU {op:Operator}{p:U->U->R U}(ho:j6 X (adO op) r)(hp:fz X.K r mr p)(ha:DE X G a b1 m1 g1)(hb:DE X G b b2 m2 g2)(hm:m1=.P->b2=false:=by first|exact λ_=>rfl|exact λh=>nomatch h) :
  DE X G (.BinOp a op b pos) (b1||b2) mr (bb p g1 g2):=⟨(Tw ho ha.un hb.un).to λ_ _ _=>m6 hp hm⟩
def oW {p:U->U->R U}(ho:j6 X (abO op) r)(hp:fz X.K r mr p)(ha:DE X G a b1 m1 g1)(hb:DE X G b b2 m2 g2)(hk:aeu op b=false)(hm:m1=.P->b2=false:=by first|exact λ_=>rfl|exact λh=>nomatch h) :
  DE X G (.Compare a [op] [b] pos) (b1||b2) mr (bb p g1 g2):=⟨(Lr ho ha.un hb.un hk).to λ_ _ _=>m6 hp hm⟩
def gZ {p:U->U->R U}(ho:K6 X r)(hp:fz X.K r mr p)(ha:DE X G a b1 m1 g1)(hb:DE X G b b2 m2 g2)(hs:CK b)(hm:m1=.P->b2=false:=by first|exact λ_=>rfl|exact λh=>nomatch h) :
  DE X G (.Subscript a b pos) (b1||b2) mr (bb p g1 g2):=⟨(TQ ho ha.un hb.un hs).to λ_ _ _=>m6 hp hm⟩
noncomputable def gB (g:Ev->R (U×Ev)):Ev->R (Bool×Ev):=λρ=>(g ρ).bind λx=>match x.1 with
 | .bl c=>.ok (c,x.2)
 |_=>.stk
theorem vV {g:Ev->R (U×Ev)}{m:Md}{Q:Bool->Hp->Prop}(h:Gj X.K G b1 (gB g) σ H Q):tD X.K G b1 m g σ H λx H'=>∃k,x=.bl k/\Q k H':=by
 obtain⟨Z,A,ρ,q,f⟩:=h;refine⟨Z,A,ρ,q,?_⟩;unfold gB at f;cases e1:g ρ with
 |stk=>rw[e1] at f;exact f.elim
 |exc=>rw[e1] at f;exact f.elim
 |ok x=>
  obtain⟨u,ρ1⟩:=x;rw[e1] at f;intro v H1 q1 x1 s1 vm;cases u with
  |bl c=>
   have e:=by have:=vm.pk;exact this
   exact⟨c,e,f H1 q1 x1 s1⟩
  |_=>exact f.elim
def lV (h:DE X G e b1 m1 g1)(he:∀oM,isTrue e X.env oM=(do let v ←oM;standAt e.pos;holding [v] (truthy v)):=by intro _;rfl):DT X G e b1 (gB g1):=⟨(PX h.un he).to λ_ _ _ h=>vV h⟩
def bS {p:U->U->R U}(ho:j6 X (abO op) r)(hp:fz X.K r mr p)(ha:DE X G a b1 m1 g1)(hb:DE X G b b2 m2 g2)(hk:aeu op b=false)(hm:m1=.P->b2=false:=by first|exact λ_=>rfl|exact λh=>nomatch h) :
  DT X G (.Compare a [op] [b] pos) (b1||b2) (gB (bb p g1 g2)):=⟨(Ls ho ha.un hb.un hk).to λ_ _ _ h=>m6 hp hm (vV h)⟩
end
end L2
namespace L2
section
variable {A':aaM->Prop}{ρ':Ev}{b p:Bool}{m:Md}{α:Type}
theorem LQ.bind {x:R α}{k:α->R (U×Ev)}{Q:VK}(f:LQ K G Z A b m ρ σ H (x.bind k) Q):∃a,x=.ok a/\LQ K G Z A b m ρ σ H (k a) Q:=by
 cases x with
 |ok a=>exact⟨a,rfl,f⟩
 |exc=>exact f.elim
 |stk=>exact f.elim
theorem LS.bind {x:R α}{k:α->R (Bool×Ev)}{Q:Bool->Hp->Prop}(f:LS K G Z A b ρ σ H (x.bind k) Q):∃a,x=.ok a/\LS K G Z A b ρ σ H (k a) Q:=by
 cases x with
 |ok a=>exact⟨a,rfl,f⟩
 |exc=>exact f.elim
 |stk=>exact f.elim
theorem LU.bind {x:R α}{k:α->R (List U×Ev)}{Q:List V->Hp->Prop}(f:LU K G Z A b p ρ σ H (x.bind k) Q):∃a,x=.ok a/\LU K G Z A b p ρ σ H (k a) Q:=by
 cases x with
 |ok a=>exact⟨a,rfl,f⟩
 |exc=>exact f.elim
 |stk=>exact f.elim
def Pk.bl {c:Bool}(h:Pk K H A (.bl c) v):v=.bl c:=by exact h
def Pk.int {i:Int}(h:Pk K H A (.int i) v):v=.int i:=by exact h
def Pk.str {i:Str}(h:Pk K H A (.str i) v):v=.str i:=by exact h
def fA {c:Bool}:Rp K H A (.bl c) (.bl c):=by rfl
def cU {c:Int}:Rp K H A (.int c) (.int c):=by rfl
def vk.ofS (h:Rp K H A u v):vk K G Z .S A ρ σ H u v:=h
def oX:Rp K H A .non .non:=by rfl
def QD {c:Str}:Rp K H A (.str c) (.str c):=by rfl
theorem aS.pks:∀{us:List U} {vs:List V},aS K H A us vs->K9 K H A us vs
 | [],_,h=>by exact h
 |u::us,_,h=>by
  obtain⟨x,r,e,z,q⟩:=h;exact⟨x,r,e,z.pk,aS.pks q⟩
end
section
variable {e a b:aca}{es rest:List aca}{b1 b2 b3:Bool}{m1 m2 m3 mr:Md}{g1 g2 g3:Ev->R (U×Ev)}{h1 h2:Ev->R (Bool×Ev)}
noncomputable def Hd (g1 g2:Ev->R (Bool×Ev)):Ev->R (Bool×Ev):=λρ=>(g1 ρ).bind λx=>if x.1=true then g2 x.2 else .ok (false,x.2)
noncomputable def T_ (g1 g2:Ev->R (Bool×Ev)):Ev->R (Bool×Ev):=λρ=>(g1 ρ).bind λx=>if x.1=true then .ok (true,x.2) else g2 x.2
noncomputable def zh (g1:Ev->R (Bool×Ev)):Ev->R (Bool×Ev):=λρ=>(g1 ρ).bind λx=>.ok (!x.1,x.2)
structure DW (X:Cx)(G:Gm)(e:aca)(b:Bool)(g:Ev->R (Bool×Ev)):Prop where
 un:PW X e (Gj X.K G b g)
def DW.dt (h:DW X G e b1 h1):DT X G e b1 h1:=⟨PW.pt h.un⟩
theorem He {Q:Bool->Hp->Prop}(h:Gj X.K G (b1||b2) (Hd h1 h2) σ H Q):Tg (Gj X.K G b1 h1) (Gj X.K G b2 h2) σ H Q:=by
 obtain⟨Z,A,ρ,q,f⟩:=h;obtain⟨⟨k,ρ1⟩,e1,f⟩:=f.bind;refine⟨Z,A,ρ,q,?_⟩;rw[e1];intro H1 q1 x1 s1;cases k with
 |true=>
  refine⟨Z,A,ρ1,q1,?_⟩;cases e2:h2 ρ1 with
  |ok y=>rw[e2] at f;exact λH2 q2 x2 s2=>f H2 q2 (x1.trans x2) (two s1 s2)
  |exc=>rw[e2] at f;exact f.elim
  |stk=>rw[e2] at f;exact f.elim
 |false=>
  exact f H1 q1 x1 λz=>s1 (ac6.mp z).1
theorem LW {Q:Bool->Hp->Prop}(h:Gj X.K G (b1||b2) (T_ h1 h2) σ H Q):Ys (Gj X.K G b1 h1) (Gj X.K G b2 h2) σ H Q:=by
 obtain⟨Z,A,ρ,q,f⟩:=h;obtain⟨⟨k,ρ1⟩,e1,f⟩:=f.bind;refine⟨Z,A,ρ,q,?_⟩;rw[e1];intro H1 q1 x1 s1;cases k with
 |false=>
  refine⟨Z,A,ρ1,q1,?_⟩;cases e2:h2 ρ1 with
  |ok y=>rw[e2] at f;exact λH2 q2 x2 s2=>f H2 q2 (x1.trans x2) (two s1 s2)
  |exc=>rw[e2] at f;exact f.elim
  |stk=>rw[e2] at f;exact f.elim
 |true=>
  exact f H1 q1 x1 λz=>s1 (ac6.mp z).1
def LX (ha:DT X G a b1 h1):DW X G (.BoolOp .And [a] pos) b1 h1:=⟨Li ha.un⟩
def Hf (ha:DT X G a b1 h1):DW X G (.BoolOp .Or [a] pos) b1 h1:=⟨PY ha.un⟩
def QE (ha:DT X G a b1 h1)(hb:DW X G (.BoolOp .And (b::rest) pos) b2 h2):DW X G (.BoolOp .And (a::b::rest) pos) (b1||b2) (Hd h1 h2):=⟨(PZ ha.un hb.un).to λ_ _ _=>He⟩
def NQ (ha:DT X G a b1 h1)(hb:DW X G (.BoolOp .Or (b::rest) pos) b2 h2):DW X G (.BoolOp .Or (a::b::rest) pos) (b1||b2) (T_ h1 h2):=⟨(Th ha.un hb.un).to λ_ _ _=>LW⟩
theorem sO (ha:DT X G a b1 h1):DT X G (.UnaryOp .Not a pos) b1 (zh h1):=⟨(P0 ha.un).to λσ H Q h=>by
 obtain⟨Z,A,ρ,q,f⟩:=h;obtain⟨⟨k,ρ1⟩,e1,f⟩:=f.bind;refine⟨Z,A,ρ,q,?_⟩;rw[e1];exact λH1 q1 x1 s1=>f H1 q1 x1 s1⟩
noncomputable def Hg (g1 g2:Ev->R (U×Ev)):Ev->R (U×Ev):=λρ=>(gB g1 ρ).bind λx=>if x.1=true then g2 x.2 else .ok (.bl false,x.2)
noncomputable def W4 (g1 g2:Ev->R (U×Ev)):Ev->R (U×Ev):=λρ=>(gB g1 ρ).bind λx=>if x.1=true then .ok (.bl true,x.2) else g2 x.2
theorem NR {g:Ev->R (U×Ev)}{ρ1:Ev}{k:Bool}(h:gB g ρ=.ok (k,ρ1)):g ρ=.ok (.bl k,ρ1):=by
 unfold gB at h;cases e:g ρ with
 |ok y=>
  obtain⟨u,ρ2⟩:=y;rw[e] at h;cases u<;>simp[R.bind] at h;obtain⟨rfl,rfl⟩:=h;rfl
 |exc=>rw[e] at h;simp[R.bind] at h
 |stk=>rw[e] at h;simp[R.bind] at h
theorem Hh (hn:m2≠.P:=by decide)(ha:DE X G a b1 m1 g1)(hb:DE X G (.BoolOp .And (b::rest) pos) b2 m2 g2):DE X G (.BoolOp .And (a::b::rest) pos) (b1||b2) .S (Hg g1 g2):=⟨(P4 ha.un hb.un).to λσ H Q h=>by
 obtain⟨Z,A,ρ,q,f⟩:=h;obtain⟨⟨k,ρ1⟩,e1,f⟩:=f.bind;refine⟨Z,A,ρ,q,?_⟩;rw[NR e1];intro v H1 q1 x1 s1 vm;refine⟨k,vm.pk.bl,?_⟩;cases k with
 |true=>
  refine⟨Z,A,ρ1,q1,?_⟩;cases e2:g2 ρ1 with
  |ok y=>rw[e2] at f;exact λv2 H2 q2 x2 s2 wX=>f v2 H2 q2 (x1.trans x2) (two s1 s2) (wX.rp hn)
  |exc=>rw[e2] at f;exact f.elim
  |stk=>rw[e2] at f;exact f.elim
 |false=>
  exact f _ H1 q1 x1 (λz=>s1 (ac6.mp z).1) (vk.ofS fA)⟩
theorem Ua (hn:m2≠.P:=by decide)(ha:DE X G a b1 m1 g1)(hb:DE X G (.BoolOp .Or (b::rest) pos) b2 m2 g2):DE X G (.BoolOp .Or (a::b::rest) pos) (b1||b2) .S (W4 g1 g2):=⟨(Tj ha.un hb.un).to λσ H Q h=>by
 obtain⟨Z,A,ρ,q,f⟩:=h;obtain⟨⟨k,ρ1⟩,e1,f⟩:=f.bind;refine⟨Z,A,ρ,q,?_⟩;rw[NR e1];intro v H1 q1 x1 s1 vm;refine⟨k,vm.pk.bl,?_⟩;cases k with
 |false=>
  refine⟨Z,A,ρ1,q1,?_⟩;cases e2:g2 ρ1 with
  |ok y=>rw[e2] at f;exact λv2 H2 q2 x2 s2 wX=>f v2 H2 q2 (x1.trans x2) (two s1 s2) (wX.rp hn)
  |exc=>rw[e2] at f;exact f.elim
  |stk=>rw[e2] at f;exact f.elim
 |true=>
  exact f _ H1 q1 x1 (λz=>s1 (ac6.mp z).1) (vk.ofS fA)⟩
def Bq {op}(ha:DE X G a b1 m1 g1):DE X G (.BoolOp op [a] pos) b1 m1 g1:=⟨P2 ha.un⟩
noncomputable def V4 (p:U->R U)(g:Ev->R (U×Ev)):Ev->R (U×Ev):=λρ=>(g ρ).bind λx=>(p x.1).bind λz=>.ok (z,x.2)
def QG (K:aai)(r:V->Hp->VK->Prop)(m:Md)(p:U->R U):Prop:=∀A H x u z Q,Pk K H A u x->(∀a,A a->Mu (H a))->p u=.ok z->(∀v H',aJ H H'->CP K m A H H' z v->Q v H')->r x H Q
theorem LY {r:V->Hp->VK->Prop}{p:U->R U}(hp:QG X.K r mr p){Q:VK}(h:tD X.K G b1 mr (V4 p g1) σ H Q):Yu r (tD X.K G b1 m1 g1) σ H Q:=by
 obtain⟨Z,A,ρ,q,f⟩:=h;obtain⟨⟨u,ρ1⟩,e1,f⟩:=f.bind;obtain⟨z,e2,f⟩:=f.bind;refine⟨Z,A,ρ,q,?_⟩;rw[e1];intro v1 H1 q1 x1 s1 pZ;exact hp A H1 v1 u z Q pZ.pk q1.mu e2 λv H' sm vm=>f v H' (q1.same sm) (x1.trans (eQ.same sm)) (oV s1 sm) (vm.e q1 sm)
def Ub {op:UnaryOp}{r:V->Hp->VK->Prop}{p:U->R U}(ho:V1 X (unaryOp op) r)(hp:QG X.K r mr p)(ha:DE X G a b1 m1 g1):DE X G (.UnaryOp op a pos) b1 mr (V4 p g1):=⟨(Tx ho ha.un).to λ_ _ _=>LY hp⟩
noncomputable def ao:Ev->R (List U×Ev):=λρ=>.ok ([],ρ)
noncomputable def af (g:Ev->R (U×Ev))(ga:Ev->R (List U×Ev)):Ev->R (List U×Ev):=λρ=>(g ρ).bind λx=>(ga x.2).bind λy=>.ok (x.1::y.1,y.2)
variable {ga:Ev->R (List U×Ev)}{p:Bool}
theorem ag:DA X G [] false p ao:=⟨jr.to λσ H Q ⟨Z,A,ρ,q,f⟩=>f [] H q eQ.refl (λ_=>⟨rfl,aJ.refl _⟩) (by unfold SY;split;exact rfl;exact aS.nil)⟩
theorem aa (ha:DE X G e b1 m1 g1)(hr:DA X G es b2 p ga)(hm:m1=.P->(p=true/\b2=false):=by first|exact λ_=>⟨rfl,rfl⟩|exact λh=>nomatch h)
  (hs:aaC (e::es) X.env=(false,adB e X.env)::aaC es X.env:=by rfl):DA X G (e::es) (b1||b2) p (af g1 ga):=⟨(fQ ha.un hr.un hs).to λσ H Q h=>by
 obtain⟨Z,A,ρ,q,f⟩:=h;obtain⟨⟨u,ρ1⟩,e1,f⟩:=f.bind;obtain⟨⟨us,ρ2⟩,e2,f⟩:=f.bind;refine⟨Z,A,ρ,q,?_⟩;rw[e1];intro v1 H1 q1 x1 s1 pZ;refine⟨Z,A,ρ1,q1,?_⟩;rw[e2];intro vs H2 q2 x2 s2 wX;refine f _ H2 q2 (x1.trans x2) (two s1 s2) ?_;cases p with
 |true=>
  exact⟨v1,vs,rfl,pZ.later q1 x2 s2 (λz=>(hm z).2),wX⟩
 |false=>
  exact aS.cons (pZ.laterS q1 x2 λz=>aaz (hm z).1) wX⟩
theorem SY.pks (h:SY K p A H us vs):K9 K H A us vs:=by
 cases p with
 |true=>exact h
 |false=>exact h.pks
def SY.rps (h:SY K false A H us vs):aS K H A us vs:=by
 exact h
noncomputable def eC (ga:Ev->R (List U×Ev)):Ev->R (U×Ev):=λρ=>(ga ρ).bind λx=>if x.1.length<=aah then .ok (.tup x.1,x.2) else .stk
noncomputable def dI (ga:Ev->R (List U×Ev)):Ev->R (U×Ev):=λρ=>(ga ρ).bind λx=>if x.1.length<=aah then .ok (.lst x.1,x.2) else .stk
def cF {p:aaM}(h:H p=none)(o:HO):aJ H (cT H p o):=λb u q=>by rw[aI (bX q h)];exact q
def oY {a:aaM}(h:aS K H A us vs)(n:H a=none)(l:us.length<=aah):Rp K (cT H a (.tup vs)) A (.tup us) (.ref a):=by
 exact⟨a,vs,rfl,bj,l,h.same (cF n _)⟩
theorem cM {a:aaM}(m:∀b,A b->Mu (H b))(h:aS K H A us vs)(n:H a=none)(l:us.length<=aah):lE K (cT H a (.lst vs)) (λb=>A b\/b=a) (.lst us) a:=
 ⟨vs,bj,l,h.re m (eQ.same (cF n _)) λb z=>by
  rcases z with z|z
  ·exact .inl z
  ·subst z;exact .inr n⟩
theorem fG {x1}(h:DA X G es b1 false ga):DE X G (.Tuple es x1 pos) b1 .S (eC ga):=⟨(Qh h.un).to λσ H Q h=>by
 obtain⟨Z,A,ρ,q,f⟩:=h;obtain⟨⟨us,ρ1⟩,e1,f⟩:=f.bind;refine⟨Z,A,ρ,q,?_⟩;rw[e1];intro vs H1 q1 x1 s1 pZ;split at f
 ·rename_i l;refine⟨by rw[←pZ.rps.length];exact l,λa n=>?_⟩;exact f _ _ (q1.same (cF n _)) (x1.trans (eQ.same (cF n _))) (oV s1 (cF n _)) (vk.ofS (oY pZ.rps n l))
 ·exact f.elim⟩
theorem cV (h:DA X G es b1 false ga):DE X G (.List es pos) b1 .O (dI ga):=⟨(Qi h.un).to λσ H Q h=>by
 obtain⟨Z,A,ρ,q,f⟩:=h;obtain⟨⟨us,ρ1⟩,e1,f⟩:=f.bind;refine⟨Z,A,ρ,q,?_⟩;rw[e1];intro vs H1 q1 x1 s1 pZ;split at f
 ·rename_i l;refine⟨by rw[←pZ.rps.length];exact l,λa n=>?_⟩;exact f _ _ (q1.same (cF n _)) (x1.trans (eQ.same (cF n _))) (oV s1 (cF n _)) (CP.e q1 (cF n _) ⟨a,rfl,n,cM q1.mu pZ.rps n l⟩)
 ·exact f.elim⟩
noncomputable def gq (p:List U->R U)(ga:Ev->R (List U×Ev)):Ev->R (U×Ev):=λρ=>(ga ρ).bind λx=>(p x.1).bind λz=>.ok (z,x.2)
def lW (K:aai)(r:List V->Hp->VK->Prop)(m:Md)(p:List U->R U):Prop:=∀A H vs us z Q,K9 K H A us vs->(∀a,A a->Mu (H a))->p us=.ok z->(∀v H',aJ H H'->CP K m A H H' z v->Q v H')->r vs H Q
theorem xo {r:List V->Hp->VK->Prop}{f:List U->R U}(hp:lW X.K r mr f){Q:VK}(h:tD X.K G b1 mr (gq f ga) σ H Q):WT r (W3 X.K G b1 p ga) σ H Q:=by
 obtain⟨Z,A,ρ,q,f⟩:=h;obtain⟨⟨us,ρ1⟩,e1,f⟩:=f.bind;obtain⟨z,e2,f⟩:=f.bind;refine⟨Z,A,ρ,q,?_⟩;rw[e1];intro vs H1 q1 x1 s1 pZ;exact hp A H1 vs us z Q pZ.pks q1.mu e2 λv H' sm vm=>f v H' (q1.same sm) (x1.trans (eQ.same sm)) (oV s1 sm) (vm.e q1 sm)
def aZ {id:String}{p1:Pos}{r:List V->Hp->VK->Prop}{f:List U->R U}(hc:d5 X (.builtin id) r)(hp:lW X.K r mr f)(hg:Gl X x)(hm:X.mg x=none)(hv:abr x=some (.builtin id))(ha:DA X G (e::es) b1 true ga)(hn:x≠"__name__":=by decide)(wR:(x==("__debug__":Str))=false:=by decide)
  (he:aaC (e::es) X.env=(false,adB e X.env)::aaC es X.env:=by rfl) (pY:(acq pos (aaC es X.env)).any (·.1)=false:=by rfl):DE X G (.Call (.Name x p1) (e::es) [] pos) b1 mr (gq f ga):=⟨(j_ hc hg hm hv ha.un hn wR he pY).to λ_ _ _=>xo hp⟩
def bE {T:String}{p1:Pos}{r:List V->Hp->VK->Prop}{f:List U->R U}(hc:d5 X (.type T) r)(hp:lW X.K r mr f)(hg:Gl X x)(hm:X.mg x=none)(hv:abr x=some (.type T))(ha:DA X G (e::es) b1 true ga)(hn:x≠"__name__":=by decide)(wR:(x==("__debug__":Str))=false:=by decide)
  (he:aaC (e::es) X.env=(false,adB e X.env)::aaC es X.env:=by rfl) (pY:(acq pos (aaC es X.env)).any (·.1)=false:=by rfl):DE X G (.Call (.Name x p1) (e::es) [] pos) b1 mr (gq f ga):=⟨(gR hc hg hm hv ha.un hn wR he pY).to λ_ _ _=>xo hp⟩
end
end L2
namespace L2
section
variable {A':aaM->Prop}{ρ':Ev}{b p:Bool}{m:Md}{α:Type}
theorem lE.mono (n:∀b,A' b->A b)(h:lE K H A u a):lE K H A' u a:=by
 cases u<;>(unfold lE at h ⊢)
 case lst us=>obtain⟨xs,q,l,z⟩:=h;exact⟨xs,q,l,z.mono n⟩
 case dct ks us=>obtain⟨xs,q,l,z⟩:=h;exact⟨xs,q,l,z.mono n⟩
 all_goals exact h.elim
theorem cS {α:Type}{l:List (Option α)}{x:Option α}{y:α}(h:(l.set i x)[j]? = some (some y)):(i=j/\x=some y)\/(i≠j/\l[j]? = some (some y)):=by
 by_cases e:i=j
 ·subst e;rw[List.getElem?_set_self'] at h;refine .inl ⟨rfl,?_⟩;cases q:l[i]? with
  |none=>rw[q] at h;cases h
  |some w=>rw[q] at h;exact aaX h
 ·rw[aa4 e] at h;exact .inr ⟨e,h⟩
theorem rH {α:Type}{l l':List (Option α)}{x:α}{β:Type}{k:List (Option β)}{y:Option β}{z:β}(hl:k.length=l.length)(h:(k.set i y)[i]? = some (some z)):(l.set i (some x))[i]? = some (some x):=by
 have:i<l.length:=by
  have:=(aap.mp h).1;rw[abQ] at this;lia
 rw[adx this]
theorem cL.set (r:cL K G Z A ρ σ H)(c:G.is i=false)(h:Rp K H A u v):cL K G Z A (ρ.set i (some u)) (σ.set i (some v)) H where
 slot:=λj w hj=>by
  rcases cS hj with⟨rfl,e⟩|⟨ne,e⟩
  ·cases e;refine⟨v,rH (l':=σ) r.len hj,?_⟩;rw[hZ (by rw[c];exact aaz)];exact h
  ·rw[aa4 ne];exact r.slot j w e
 dis:=λj k w w' a cj ck ne hj hk sj sk=>by
  rcases cS hj with⟨rfl,_⟩|⟨n1,e1⟩
  ·rw[c] at cj;cases cj
  ·rcases cS hk with⟨rfl,_⟩|⟨n2,e2⟩
   ·rw[c] at ck;cases ck
   ·rw[aa4 n1] at sj;rw[aa4 n2] at sk;exact r.dis j k w w' a cj ck ne e1 e2 sj sk
 mu:=r.mu
 sup:=r.sup
 out:=r.out
 bas:=r.bas
 io0:=λh0=>by
  obtain⟨a,b⟩:=r.io0 h0;refine⟨?_,b⟩;have:i≠0:=λz=>by subst z;rw[b] at c;cases c
  rw[aa4 this];exact a
 len:=by rw[abQ,abQ];exact r.len
theorem cL.drop (r:cL K G Z A ρ σ H)(i:Nat):cL K G Z A (ρ.set i none) σ H where
 slot:=λj w hj=>by
  rcases cS hj with⟨rfl,e⟩|⟨ne,e⟩
  ·cases e
  ·exact r.slot j w e
 dis:=λj k w w' a cj ck ne hj hk sj sk=>by
  rcases cS hj with⟨rfl,e⟩|⟨n1,e1⟩
  ·cases e
  ·rcases cS hk with⟨rfl,e⟩|⟨n2,e2⟩
   ·cases e
   ·exact r.dis j k w w' a cj ck ne e1 e2 sj sk
 mu:=r.mu
 sup:=r.sup
 out:=r.out
 bas:=r.bas
 io0:=r.io0
 len:=by rw[abQ];exact r.len
theorem cL.setO (r:cL K G Z A ρ σ H)(c:G.is i=true)(hi:G.io=true->i≠0)(na:¬A a)(nb:Z.B a=none)(r':cL K G Z (λb=>A b\/b=a) ρ σ H)(h:lE K H (λb=>A b\/b=a) u a) :
  cL K G Z (λb=>A b\/b=a) (ρ.set i (some u)) (σ.set i (some (.ref a))) H where
 slot:=λj w hj=>by
  rcases cS hj with⟨rfl,e⟩|⟨ne,e⟩
  ·cases e;refine⟨.ref a,rH (l':=σ) r.len hj,?_⟩;rw[h9 c];exact⟨a,rfl,.inr rfl,nb,.inl λz=>na (r.sup a z),h⟩
  ·rw[aa4 ne];exact r'.slot j w e
 dis:=λj k w w' b cj ck ne hj hk sj sk=>by
  have key:∀k w',G.is k=true->i≠k->ρ[k]? = some (some w')->σ[k]? ≠ some (some (.ref a)):=λk w' ck _ e q=>by
   obtain⟨b,h1,h2,_⟩:=r.own ck e;rw[h1] at q;cases q;exact na h2
  rcases cS hj with⟨rfl,e1⟩|⟨n1,e1⟩
  ·rcases cS hk with⟨rfl,_⟩|⟨n2,e2⟩
   ·exact ne rfl
   ·rw[rH (l':=σ) r.len hj] at sj;cases sj;rw[aa4 n2] at sk;exact key k w' ck n2 e2 sk
  ·rcases cS hk with⟨rfl,e2⟩|⟨n2,e2⟩
   ·rw[rH (l':=σ) r.len hk] at sk;cases sk;rw[aa4 n1] at sj;exact key j w cj n1 e1 sj
   ·rw[aa4 n1] at sj;rw[aa4 n2] at sk;exact r.dis j k w w' b cj ck ne e1 e2 sj sk
 mu:=r'.mu
 sup:=r'.sup
 out:=r'.out
 bas:=r'.bas
 io0:=λh0=>by
  obtain⟨a,b⟩:=r.io0 h0;exact⟨by rw[aa4 (hi h0)];exact a,b⟩
 len:=by rw[abQ,abQ];exact r.len
theorem cL.free (r:cL K G Z A ρ σ H)(c:G.is i=true)(hi:G.io=true->i≠0)(h:ρ[i]? = some (some u)):∃a A',σ[i]? = some (some (.ref a))/\cL K G Z A' (ρ.set i none) σ H/\Rp K H A' u (.ref a):=by
 obtain⟨a,h1,h2,h3,h4,h5⟩:=r.own c h;have na:¬Z.A0 a:=by
  rcases h4 with h4|⟨h4,h6⟩
  ·exact h4
  ·exact absurd h6 (hi h4)
 have sub:∀b,(A b/\b≠a)->A b:=λb z=>z.1;refine⟨a,λb=>A b/\b≠a,h1,?_,h5.rp sub λz=>z.2 rfl⟩;exact {
  slot:=λj w hj=>by
   rcases cS hj with⟨rfl,e⟩|⟨ne,e⟩
   ·cases e
   ·obtain⟨v,s1,s2⟩:=r.slot j w e;refine⟨v,s1,?_⟩;by_cases cj:G.is j=true
    ·rw[h9 cj] at s2 ⊢;obtain⟨b,e1,e2,e3,e4,e5⟩:=s2;refine⟨b,e1,⟨e2,λz=>?_⟩,e3,e4,e5.mono sub⟩;subst z e1;exact r.dis i j u w b c cj ne h e h1 s1
    ·rw[hZ cj] at s2 ⊢;exact s2.mono sub
  dis:=(r.drop i).dis
  mu:=λb z=>r.mu b z.1
  sup:=λb z=>⟨r.sup b z,λe=>na (e▸z)⟩
  out:=λb z=>r.out b z.1
  bas:=r.bas
  io0:=r.io0
  len:=by rw[abQ];exact r.len}
theorem cL.put (r:cL K G Z A ρ σ H){w:U}(c:G.is i=true)(h:ρ[i]? = some (some u))(ha:σ[i]? = some (some (.ref a)))(e:∀b o,b≠a->H b=some o->H' b=some o)(t:lE K H' A w a) :
  cL K G Z A (ρ.set i (some w)) σ H':=by
 obtain⟨a',h1,h2,h3,h4,h5⟩:=r.own c h;rw[ha] at h1;cases h1;have x:eQ A H H':=λb o nb z=>e b o (λq=>nb (q▸h2)) z;exact {
  slot:=λj y hj=>by
   rcases cS hj with⟨rfl,q⟩|⟨ne,q⟩
   ·cases q;refine⟨.ref a,ha,?_⟩;rw[h9 c];exact⟨a,rfl,h2,h3,h4,t⟩
   ·obtain⟨v,s1,s2⟩:=r.slot j y q;refine⟨v,s1,?_⟩;by_cases cj:G.is j=true
    ·rw[h9 cj] at s2 ⊢;obtain⟨b,e1,e2,e3,e4,e5⟩:=s2;refine⟨b,e1,e2,e3,e4,e5.re r.mu x (λb z=>.inl z) λo z=>e b o (λq'=>?_) z⟩;subst q' e1;exact r.dis i j u y b c cj ne h q ha s1
    ·rw[hZ cj] at s2 ⊢;exact s2.re r.mu x λb z=>.inl z
  dis:=λj k y y' b cj ck ne hj hk sj sk=>by
   have f:∀j y,(ρ.set i (some w))[j]? = some (some y)->∃y',ρ[j]? = some (some y'):=λj y hj=>by
    rcases cS hj with⟨rfl,q⟩|⟨ne,q⟩
    ·exact⟨u,h⟩
    ·exact⟨y,q⟩
   obtain⟨y1,hj⟩:=f j y hj;obtain⟨y2,hk⟩:=f k y' hk;exact r.dis j k y1 y2 b cj ck ne hj hk sj sk
  mu:=λb z=>by
   by_cases q:b=a
   ·subst q;exact t.mu
   ·have m:=r.mu b z;obtain⟨o,z⟩:=m.ex;rw[e b o q z,←z];exact m
  sup:=r.sup
  out:=r.out
  bas:=λb o z=>e b o (λq=>by subst q;rw[h3] at z;cases z) (r.bas b o z)
  io0:=r.io0
  len:=by rw[abQ];exact r.len}
end
def Uc (K:aai)(m:Md)(A:aaM->Prop)(H:Hp):R U->VK->Prop
 | .ok u,Q=>∀v H',aJ H H'->CP K m A H H' u v->Q v H'
 |_,_=>False
noncomputable def sP {α:Type}(n:Nat)(g:List U->R α)(us:List U):R α:=if us.length=n then g us else .stk
def j8 (K:aai)(n:Nat)(f:List U->R U)(m:Md):Sp:=λvs H Q _=>∃us A,aS K H A us vs/\(∀a,A a->Mu (H a))/\Uc K m A H (sP n f us) Q
def QH (K:aai)(n:Nat)(f:List U->R (U×U)):Sp:=λvs H Q _=>∃u0 us a0 vs' A,vs=.ref a0::vs'/\A a0/\lE K H A u0 a0/\aS K H A us vs'/\(∀a,A a->Mu (H a))/\match sP n f (u0::us) with
 | .ok (u,w)=>∀v H',(∀b o,b≠a0->H b=some o->H' b=some o)->lE K H' A w a0->Rp K H' A u v->Q v H'
 |_=>False
section
variable {e a b:aca}{es rest:List aca}{p1:Pos}{b1 b2 b3:Bool}{m1 m2 m3 mr:Md}{g1 g2 g3:Ev->R (U×Ev)}{h1 h2:Ev->R (Bool×Ev)}{ga:Ev->R (List U×Ev)}
noncomputable def eR (n:Nat)(f:List U->R U)(ga:Ev->R (List U×Ev)):Ev->R (U×Ev):=λρ=>(ga ρ).bind λx=>(sP n f x.1).bind λz=>.ok (z,x.2)
theorem aB {f:List U->R U}(F:Fn X.prog X.w X.K X.mg X.base x k ps (j8 X.K n f mr))(hr:dS k X.A)(ha:DA X G (e::es) b1 false ga)(hg:Gl X x:=by rfl)(wR:(x==("__debug__":Str))=false:=by decide)(he:aaC (e::es) X.env=(false,adB e X.env)::aaC es X.env:=by rfl)(pY:(acq pos (aaC es X.env)).any (·.1)=false:=by rfl):DE X G (.Call (.Name x p1) (e::es) [] pos) b1 mr (eR n f ga):=⟨(ze F hr ha.un hg wR he pY).to λσ H Q h=>by
 obtain⟨Z,A,ρ,q,f⟩:=h;obtain⟨⟨us,ρ1⟩,e1,f⟩:=f.bind;obtain⟨z,e2,f⟩:=f.bind;refine⟨Z,A,ρ,q,?_⟩;rw[e1];intro vs H1 q1 x1 s1 pZ;rw[aa2];refine⟨us,A,pZ.rps,q1.mu,?_⟩;rw[e2];exact λv H' sm vm=>f v H' (q1.same sm) (x1.trans (eQ.same sm)) (oV s1 sm) (vm.e q1 sm)⟩
noncomputable def Hi (ρ:Ev)(i:Nat):Bool:=match ρ[i]? with
 |some (some _)=>true
 |_=>false
theorem xq (h:Hi ρ i=true):∃u,ρ[i]? = some (some u):=by
 unfold Hi at h;split at h
 ·rename_i u hu;exact⟨u,hu⟩
 ·cases h
noncomputable def m7 (n i:Nat)(f:List U->R (U×U))(ga:Ev->R (List U×Ev)):Ev->R (U×Ev):=λρ=>if Hi ρ i=true then (ga ρ).bind λx=>match x.2[i]? with
 |some (some u0)=>(sP n f (u0::x.1)).bind λz=>.ok (z.1,x.2.set i (some z.2))
 |_=>.stk
 else .stk
theorem cz {y:Str}{f:List U->R (U×U)}(F:Fn X.prog X.w X.K X.mg X.base x k ps (QH X.K n f))(hr:dS k X.A)(ha:DA X G es b1 false ga)(hN:X.N[i]? = some y:=by rfl)(hv:Gu X.env.scope y:=by first|exact Or.inl rfl|exact Or.inr (Or.inl rfl)|exact Or.inr (Or.inr rfl))(c:G.is i=true:=by rfl)(hd:(y==("__debug__":Str))=false:=by decide)(oJ:(y==("__classdict__":Str))=false:=by decide)(hs:aaC (.Name y p2::es) X.env=(false,adB (.Name y p2) X.env)::aaC es X.env:=by rfl)(hg:Gl X x:=by rfl)(wR:(x==("__debug__":Str))=false:=by decide)(pY:(acq pos (aaC es X.env)).any (·.1)=false:=by rfl):DE X G (.Call (.Name x p1) (.Name y p2::es) [] pos) true .S (m7 n i f ga):=⟨(ze F hr (fQ (jo hN hv hd oJ) ha.un hs) hg wR hs pY).to λσ H Q h=>by
 obtain⟨Z,A,ρ,q,f⟩:=h;unfold m7 at f;split at f
 ·rename_i hl;obtain⟨u00,hu0⟩:=xq hl;obtain⟨a0,h0,_⟩:=q.own c hu0;obtain⟨⟨us,ρ1⟩,e1,f⟩:=f.bind;split at f
  ·rename_i u0 hu;obtain⟨⟨z,w⟩,e2,f⟩:=f.bind;refine⟨.ref a0,h0,Z,A,ρ,q,?_⟩;rw[e1];intro vs H1 q1 x1 s1 pZ;obtain⟨a0',k1,k2,_,_,k3⟩:=q1.own c hu;rw[h0] at k1;cases k1;rw[aa2];refine⟨u0,us,a0,vs,A,rfl,k2,k3,pZ.rps,q1.mu,?_⟩;rw[e2];intro v H' em tp rp;exact f v H' (q1.put c hu h0 em tp) (x1.trans λb o nb z=>em b o (λy=>nb (y▸k2)) z) (λz=>nomatch z) rp
  ·exact f.elim
 ·exact f.elim⟩
def Hj (K:aai)(T:String)(r:V->List V->Hp->VK->Prop)(p:U->List U->R (U×U)):Prop:=∀A H a u vs us z w Q,lE K H A u a->A a->aS K H A us vs->(∀a,A a->Mu (H a))->p u us=.ok (z,w)->
 (∀v H',(∀b o,b≠a->H b=some o->H' b=some o)->lE K H' A w a->Rp K H' A z v->Q v H')->r (.ref a) vs H Q
noncomputable def E1:U->String->Bool
 | .lst _,T=>T=="list"
 |_,_=>false
theorem QI {a:aaM}{T:String}(h:lE K H A u a)(t:E1 u T=true):WV K T (.ref a) H:=by
 cases u<;>(unfold E1 at t)
 case lst us=>
  obtain⟨xs,q,_⟩:=h;exact .inl ⟨by simpa using t,xs,.inl (.inl q)⟩
 all_goals cases t
noncomputable def gM (T:String)(i:Nat)(p:U->List U->R (U×U))(ga:Ev->R (List U×Ev)):Ev->R (U×Ev):=λρ=>match ρ[i]? with
 |some (some u1)=>if E1 u1 T=true then (ga ρ).bind λx=>match x.2[i]? with
  |some (some u0)=>(p u0 x.1).bind λz=>.ok (z.1,x.2.set i (some z.2))
  |_=>.stk
  else .stk
 |_=>.stk
theorem Hk {T:String}{r:V->List V->Hp->VK->Prop}{p:U->List U->R (U×U)}(hp:Hj X.K T r p)(c:G.is i=true){Q:VK}(h:tD X.K G true .S (gM T i p ga) σ H Q) :
  Yy X.K T r (PR i) (W3 X.K G b1 false ga) σ H Q:=by
 obtain⟨Z,A,ρ,q,f⟩:=h;unfold gM at f;split at f
 ·rename_i u1 Ta;split at f
  ·rename_i ht;obtain⟨a0,h0,_,_,_,t0⟩:=q.own c Ta;obtain⟨⟨us,ρ1⟩,e1,f⟩:=f.bind;split at f
   ·rename_i u0 hu;obtain⟨⟨z,w⟩,e2,f⟩:=f.bind;refine⟨.ref a0,h0,QI t0 ht,Z,A,ρ,q,?_⟩;rw[e1];intro vs H1 q1 x1 s1 pZ;obtain⟨a0',k1,k2,_,_,k3⟩:=q1.own c hu;rw[h0] at k1;cases k1;exact hp A H1 a0 u0 vs us z w Q k3 k2 pZ.rps q1.mu e2 λv H' em tp rp=>f v H' (q1.put c hu h0 em tp) (x1.trans λb o nb z=>em b o (λy=>nb (y▸k2)) z) (λz=>nomatch z) rp
   ·exact f.elim
  ·exact f.elim
 ·exact f.elim
def lX {T id:String}{y name:Str}{bW:Pos}{r:V->List V->Hp->VK->Prop}{p:U->List U->R (U×U)}(pa:PlainAttrs T)(slot:Slot T name id)(X2:typeOf (.builtin id)=pure (.type "method_descriptor"))(hm:K7 X id r)(hp:Hj X.K T r p)(ha:DA X G (e::es) b1 false ga)(hN:X.N[i]? = some y:=by rfl)(hv:Gu X.env.scope y:=by first|exact Or.inl rfl|exact Or.inr (Or.inl rfl)|exact Or.inr (Or.inr rfl))(c:G.is i=true:=by rfl)(hd:(y==("__debug__":Str))=false:=by decide)(oJ:(y==("__classdict__":Str))=false:=by decide)(u3:adP (.Name y p2) name X.env (adB (.Name y p2) X.env)=adB (.Name y p2) X.env:=by rfl)(Cy:((acq pos (aaC (e::es) X.env)).all (λx=> !x.1)&&(backToKw pos (aeU [] X.env)).all (λx=>x.1.isSome)
   && decide ((e::es).length+([]:List aex).length+(if ([]:List aex).isEmpty then 0 else 1)<30))=true:=by rfl)(u4:(bW.endLine==pos.line)=true:=by rfl)(hs:aaC (e::es) X.env=(false,adB e X.env)::aaC es X.env:=by rfl)(mL:(acq pos (aaC es X.env)).any (·.1)=false:=by rfl) :
  DE X G (.Call (.Attribute (.Name y p2) name bW) (e::es) [] pos) true .S (gM T i p ga):=⟨(GN pa slot X2 hm (jo hN hv hd oJ) ha.un u3 Cy u4 hs mL).to λ_ _ _=>Hk hp c⟩
def Hl (K:aai)(r:V->Option Int->Option Int->Hp->VK->Prop)(m:Md)(p:U->Option Int->Option Int->R U):Prop:=∀A H x u lo hi z Q,Pk K H A u x->(∀a,A a->Mu (H a))->p u lo hi=.ok z->(∀v H',aJ H H'->CP K m A H H' z v->Q v H')->r x lo hi H Q
def W6 (K:aai)(G:Gm)(Z:Pkg)(A:aaM->Prop)(b:Bool)(ρ:Ev)(σ:St)(H:Hp):R (Option Int×Ev)->(Option Int->Hp->Prop)->Prop
 | .ok (c,ρ'),Q=>∀H',cL K G Z A ρ' σ H'->eQ A H H'->(b=false->ρ'=ρ/\aJ H H')->Q c H'
 |_,_=>False
def Zy (K:aai)(G:Gm)(b:Bool)(g:Ev->R (Option Int×Ev)):TO:=λσ H Q=>∃Z A ρ,cL K G Z A ρ σ H/\W6 K G Z A b ρ σ H (g ρ) Q
structure DO (X:Cx)(G:Gm)(e:Option aca)(b:Bool)(g:Ev->R (Option Int×Ev)):Prop where
 un:PO X e (Zy X.K G b g)
noncomputable def cW:Ev->R (Option Int×Ev):=λρ=>.ok (none,ρ)
noncomputable def bY (g:Ev->R (U×Ev)):Ev->R (Option Int×Ev):=λρ=>(g ρ).bind λx=>match x.1 with
 | .int i=>.ok (some i,x.2)
 |_=>.stk
def PO.to {e:Option aca}{t t':TO}(h:PO X e t)(i:∀σ H Q,t' σ H Q->t σ H Q):PO X e t':=λpins s σ H Q I q=>h pins s σ H Q I (i _ _ _ q)
def fh:DO X G none false cW:=⟨Lx.to λσ H Q ⟨Z,A,ρ,q,f⟩=>f H q eQ.refl λ_=>⟨rfl,aJ.refl _⟩⟩
theorem di (h:DE X G e b1 m1 g1):DO X G (some e) b1 (bY g1):=⟨(Ly h.un).to λσ H Q h00=>by
 obtain⟨Z,A,ρ,q,f⟩:=h00;refine⟨Z,A,ρ,q,?_⟩;unfold bY at f;cases e1:g1 ρ with
 |stk=>rw[e1] at f;exact f.elim
 |exc=>rw[e1] at f;exact f.elim
 |ok x=>
  obtain⟨u,ρ1⟩:=x;rw[e1] at f;intro v H1 q1 x1 s1 vm;cases u with
  |int c=>exact⟨c,vm.pk.int,f H1 q1 x1 s1⟩
  |_=>exact f.elim⟩
noncomputable def lY (p:U->Option Int->Option Int->R U)(g:Ev->R (U×Ev))(lo hi:Ev->R (Option Int×Ev)):Ev->R (U×Ev):=λρ=>(g ρ).bind λx=>(lo x.2).bind λl=>(hi l.2).bind λh=>(p x.1 l.1 h.1).bind λz=>.ok (z,h.2)
theorem cY {r:V->Option Int->Option Int->Hp->VK->Prop}{p:U->Option Int->Option Int->R U}{lo hi:Option aca}{gl gh:Ev->R (Option Int×Ev)}(hr:GJ X r)(hp:Hl X.K r mr p)(he:DE X G e b1 m1 g1)(hl:DO X G lo b2 gl)(hu:DO X G hi b3 gh)(hm:m1=.P->(b2||b3)=false:=by first|exact λ_=>rfl|exact λh=>nomatch h):DE X G (.Subscript e (.Slice lo hi none p2) pos) (b1||(b2||b3)) mr (lY p g1 gl gh):=⟨(GK hr he.un hl.un hu.un).to λσ H Q h=>by
 obtain⟨Z,A,ρ,q,f⟩:=h;obtain⟨⟨u,ρ1⟩,e1,f⟩:=f.bind;obtain⟨⟨l,ρ2⟩,e2,f⟩:=f.bind;obtain⟨⟨h,ρ3⟩,e3,f⟩:=f.bind;obtain⟨z,e4,f⟩:=f.bind;refine⟨Z,A,ρ,q,?_⟩;rw[e1];intro v1 H1 q1 x1 s1 pZ;refine⟨Z,A,ρ1,q1,?_⟩;rw[e2];intro H2 q2 x2 s2;refine⟨Z,A,ρ2,q2,?_⟩;rw[e3];intro H3 q3 x3 s3;exact hp A H3 v1 u l h z Q (pZ.later q1 (x2.trans x3) (two s2 s3) hm) q3.mu e4 λv H' sm vm=>f v H' (q3.same sm) ((x1.trans (x2.trans x3)).trans (eQ.same sm)) (oV (two s1 (two s2 s3)) sm) (vm.e q3 sm)⟩
end
end L2
namespace L2
def W7 (K:aai)(G:Gm)(sg:U->Ev->R Ev):TG:=λv σ H Q=>∃Z A ρ u,cL K G Z A ρ σ H/\Rp K H A u v/\match sg u ρ with
 | .ok ρ'=>∀σ',cL K G Z A ρ' σ' H->(∀i,G.is i=true->σ'[i]? = σ[i]?)->Q σ' H
 |_=>False
structure DG (X:Cx)(G:Gm)(tg:aca)(sg:U->Ev->R Ev):Prop where
 un:PG X tg (W7 X.K G sg)
def W8 (K:aai)(G:Gm)(sg:List U->Ev->R Ev):Ll:=λvs σ H Q=>∃Z A ρ us,cL K G Z A ρ σ H/\aS K H A us vs/\match sg us ρ with
 | .ok ρ'=>∀σ',cL K G Z A ρ' σ' H->(∀i,G.is i=true->σ'[i]? = σ[i]?)->Q σ' H
 |_=>False
structure V5 (X:Cx)(G:Gm)(tgs:List aca)(sg:List U->Ev->R Ev):Prop where
 un:NJ X tgs (W8 X.K G sg)
noncomputable def bB (i:Nat):U->Ev->R Ev:=λu ρ=>.ok (ρ.set i (some u))
noncomputable def dD:List U->Ev->R Ev:=λus ρ=>match us with
 | []=>.ok ρ
 |_=>.stk
noncomputable def aM (s:U->Ev->R Ev)(t:List U->Ev->R Ev):List U->Ev->R Ev:=λus ρ=>match us with
 |u::r=>(s u ρ).bind λρ1=>t r ρ1
 |_=>.stk
noncomputable def du (n:Nat)(t:List U->Ev->R Ev):U->Ev->R Ev:=λu ρ=>match u with
 | .tup us=>if us.length=n then t us ρ else .stk
 |_=>.stk
def NJ.to {es:List aca}{t t':Ll}(h:NJ X es t)(i:∀v σ H Q,t' v σ H Q->t v σ H Q):NJ X es t':=λpins s σ H v u Q I r q=>h pins s σ H v u Q I r (i _ _ _ _ q)
theorem az (hN:X.N.Nodup)(hi:X.N[i]? = some x:=by rfl)(hx:Gv X.env.scope x:=by first|exact Or.inl rfl|exact Or.inr rfl)(c:G.is i=false:=by rfl)(hf:X.fn x=true\/X.env.scope.names.lookup x=some .local:=by first|exact .inl rfl|exact .inr rfl|assumption):DG X G (.Name x pos) (bB i):=⟨(Lm hN hi hx hf).to λv σ H Q ⟨Z,A,ρ,u,q,r,f⟩=>f _ (q.set c r) λj cj=>by
  have:i≠j:=λz=>by subst z;rw[c] at cj;cases cj
  rw[aa4 this]⟩
theorem eI:V5 X G [] dD:=⟨Ln.to λvs σ H Q h00=>by
 obtain⟨Z,A,ρ,us,q,r,f⟩:=h00;cases us with
 |nil=>exact⟨r,f σ q λ_ _=>rfl⟩
 |cons=>exact f.elim⟩
theorem bo {e:aca}{es:List aca}{s:U->Ev->R Ev}{t:List U->Ev->R Ev}(h1:DG X G e s)(h2:V5 X G es t)
  (hs:(adt (e::es) X.env).map (·.2)=assign e X.env::(adt es X.env).map (·.2):=by rfl):V5 X G (e::es) (aM s t):=⟨(Gy h1.un h2.un hs).to λvs σ H Q h00=>by
 obtain⟨Z,A,ρ,us,q,r,f⟩:=h00;unfold aM at f;cases us with
 |nil=>exact f.elim
 |cons u us=>
  obtain⟨v,vr,rfl,r1,r2⟩:=r;dsimp only at f;refine⟨v,vr,rfl,Z,A,ρ,u,q,r1,?_⟩;cases e1:s u ρ with
  |ok ρ1=>
   rw[e1] at f;simp only[R.bind] at f;intro σ1 q1 o1;refine⟨Z,A,ρ1,us,q1,r2,?_⟩;cases e2:t us ρ1 with
   |ok ρ2=>rw[e2] at f;exact λσ2 q2 o2=>f σ2 q2 λi c=>(o2 i c).trans (o1 i c)
   |exc=>rw[e2] at f;exact f.elim
   |stk=>rw[e2] at f;exact f.elim
  |exc=>rw[e1] at f;exact f.elim
  |stk=>rw[e1] at f;exact f.elim⟩
theorem gu {es:List aca}{t:List U->Ev->R Ev}(hc:X.calm=true)(h:V5 X G es t)(hn:(adt es X.env).length=n:=by rfl)(gj:(adt es X.env).findIdx? (·.1)=none:=by rfl):DG X G (.Tuple es k pos) (du n t):=⟨(P6 hc h.un hn gj).to λv σ H Q h00=>by
 obtain⟨Z,A,ρ,u,q,r,f⟩:=h00;unfold du at f;cases u with
 |tup us=>
  obtain⟨a,xs,rfl,sq,l,rs⟩:=r;dsimp only at f;by_cases hl:us.length=n
  ·rw[h9 hl] at f;exact⟨a,xs,rfl,gr.of sq,by rw[←rs.length];exact hl,Z,A,ρ,us,q,rs,f⟩
  ·rw[hZ hl] at f;exact f.elim
 |_=>exact f.elim⟩
def Zz (K:aai)(Z:Pkg)(m:Md)(H:Hp)(u:U)(v:V):Prop:=match m with
 | .S=>Rp K H Z.A0 u v
 | .O=>∃a,v=.ref a/\Z.B a=none/\¬Z.A0 a/\lE K H (λb=>Z.A0 b\/b=a) u a
 | .P=>False
def qV (K:aai)(G:Gm)(Z:Pkg)(m:Md):SR->oP->Prop
 | .nx ρ',D=>∀A' σ' H',cL K G Z A' ρ' σ' H'->D.nx σ' H'
 | .bk ρ',D=>∀A' σ' H',cL K G Z A' ρ' σ' H'->D.bk σ' H'
 | .ct ρ',D=>∀A' σ' H',cL K G Z A' ρ' σ' H'->D.ct σ' H'
 | .rt u ρ',D=>∀A' σ' H' v,cL K G Z A' ρ' σ' H'->Zz K Z m H' u v->D.rt v H'
 | .exc _ _,_=>∀H',(∀a o,Z.B a=some o->H' a=some o)->G.W H'
 | .stk,_=>False
def S0 (K:aai)(G:Gm)(m:Md)(g:Ev->SR):TS:=λD σ H=>∃Z A ρ,cL K G Z A ρ σ H/\qV K G Z m (g ρ) D
structure DS (X:Cx)(G:Gm)(m:Md)(st:aeO)(g:Ev->SR):Prop where
 un:PS X st (S0 X.K G m g)
structure xt (X:Cx)(G:Gm)(m:Md)(st:List aeO)(g:Ev->SR):Prop where
 un:vc X st (S0 X.K G m g)
noncomputable def cQ:Ev->SR:=.nx
noncomputable def aH (g1 g2:Ev->SR):Ev->SR:=λρ=>match g1 ρ with
 | .nx ρ'=>g2 ρ'
 |r=>r
noncomputable def SR.of {α:Type}:R α->(α->SR)->SR
 | .ok a,f=>f a
 |_,_=>.stk
section
variable {m:Md}{α:Type}
theorem qV.of {x:R α}{k:α->SR}{D:oP}(f:qV K G Z m (SR.of x k) D):∃a,x=.ok a/\qV K G Z m (k a) D:=by
 cases x with
 |ok a=>exact⟨a,rfl,f⟩
 |exc=>exact f.elim
 |stk=>exact f.elim
end
section
variable {e a b:aca}{VO rest:List aeO}{es:List aca}{p1:Pos}{b1 b2 b3:Bool}{m m1 m2 m3 mr:Md}{g1 g2 g3:Ev->R (U×Ev)}{h1 h2:Ev->R (Bool×Ev)}{ga:Ev->R (List U×Ev)}{s1 s2:Ev->SR}
def bw:xt X G m [] cQ:=⟨Lj.to λD σ H ⟨Z,A,ρ,q,f⟩=>f A σ H q⟩
def aq (h:DS X G m st s1):xt X G m [st] s1:=⟨CG h.un⟩
theorem ah (ha:DS X G m st s1)(hb:xt X G m rest s2):xt X G m (st::rest) (aH s1 s2):=⟨(Gx ha.un hb.un).to λD σ H h00=>by
 obtain⟨Z,A,ρ,q,f⟩:=h00;refine⟨Z,A,ρ,q,?_⟩;unfold aH at f;cases e:s1 ρ with
 |nx ρ1=>rw[e] at f;exact λA1 σ1 H1 q1=>⟨Z,A1,ρ1,q1,f⟩
 |rt=>rw[e] at f;exact f
 |bk=>rw[e] at f;exact f
 |ct=>rw[e] at f;exact f
 |exc=>rw[e] at f;exact f
 |stk=>rw[e] at f;exact f⟩
noncomputable def m9 (g:Ev->R (U×Ev)):Ev->SR:=λρ=>SR.of (g ρ) λx=>.nx x.2
theorem kP (h:DE X G e b1 m1 g1)(hs:ado e none pos.line X.env=pure false:=by rfl):DS X G m (.Expr e pos) (m9 g1):=⟨(Lk h.un hs).to λD σ H h00=>by
 obtain⟨Z,A,ρ,q,f⟩:=h00;obtain⟨⟨u,ρ1⟩,e1,f⟩:=f.of;refine⟨Z,A,ρ,q,?_⟩;rw[e1];exact λv H1 q1 _ _ _=>f A σ H1 q1⟩
noncomputable def bT (g:Ev->R (U×Ev)):Ev->SR:=λρ=>SR.of (g ρ) λx=>.rt x.1 x.2
theorem a_ (h:DE X G e b1 m1 g1)(hn:m1≠.P:=by decide):DS X G .S (.Return (some e) pos) (bT g1):=⟨(Bc h.un).to λD σ H h00=>by
 obtain⟨Z,A,ρ,q,f⟩:=h00;obtain⟨⟨u,ρ1⟩,e1,f⟩:=f.of;refine⟨Z,A,ρ,q,?_⟩;rw[e1];exact λv H1 q1 _ _ vm=>f A σ H1 v q1 ((vm.rp hn).mono q1.sup)⟩
theorem kQ (h:DE X G e b1 .O g1):DS X G .O (.Return (some e) pos) (bT g1):=⟨(Bc h.un).to λD σ H h00=>by
 obtain⟨Z,A,ρ,q,f⟩:=h00;obtain⟨⟨u,ρ1⟩,e1,f⟩:=f.of;refine⟨Z,A,ρ,q,?_⟩;rw[e1];intro v H1 q1 _ _ vm;obtain⟨a,rfl,na,nb,_,t⟩:=vm;exact f A σ H1 _ q1 ⟨a,rfl,nb,λz=>na (q1.sup a z),t.mono λb z=>z.imp (q1.sup b) id⟩⟩
theorem rJ (hm:m≠.P:=by decide)(hi:G.io=true->i≠0)(hN:X.N[i]? = some x:=by rfl)(hv:Gu X.env.scope x:=by first|exact Or.inl rfl|exact Or.inr (Or.inl rfl)|exact Or.inr (Or.inr rfl))(hd:(x==("__debug__":Str))=false:=by decide)(oJ:(x==("__classdict__":Str))=false:=by decide)(c:G.is i=true:=by rfl):DS X G m (.Return (some (.Name x p1)) pos) (bT (ae i)):=⟨(Bc (jo hN hv hd oJ)).to λD σ H h00=>by
 obtain⟨Z,A,ρ,q,f⟩:=h00;obtain⟨⟨u,ρ1⟩,e1,f⟩:=f.of;unfold ae at e1;split at e1
 ·rename_i u' hu;cases e1;obtain⟨a,h1,h2,h3,h4,h5⟩:=q.own c hu;have na:¬Z.A0 a:=by
   rcases h4 with h4|⟨h4,h6⟩
   ·exact h4
   ·exact absurd h6 (hi h4)
  refine⟨.ref a,h1,f A σ H _ q ?_⟩;cases m with
  |S=>exact h5.rp q.sup na
  |O=>exact⟨a,rfl,h3,na,h5.mono λb z=>by
    rcases z with z|z
    ·exact q.sup b z
    ·subst z;exact h2⟩
  |P=>exact absurd rfl hm
 ·cases e1⟩
noncomputable def aY (i:Nat)(g:Ev->R (U×Ev)):Ev->SR:=λρ=>SR.of (g ρ) λx=>.nx (x.2.set i (some x.1))
theorem zi (c:G.is i=false)(hn:m1≠.P)(hi:∀σ H Q,tD X.K G b1 m1 g1 σ H Q->te σ H Q){D:oP}(h:S0 X.K G m (aY i g1) D σ H):Gz te (yU i) D σ H:=by
 obtain⟨Z,A,ρ,q,f⟩:=h;obtain⟨⟨u,ρ1⟩,e1,f⟩:=f.of;refine hi _ _ _ ⟨Z,A,ρ,q,?_⟩;rw[e1];exact λv H1 q1 _ _ vm=>f A _ H1 (q1.set c (vm.rp hn))
theorem E2 (c:G.is i=true)(h0:G.io=true->i≠0)(hi:∀σ H Q,tD X.K G b1 .O g1 σ H Q->te σ H Q){D:oP}(h:S0 X.K G m (aY i g1) D σ H):Gz te (yU i) D σ H:=by
 obtain⟨Z,A,ρ,q,f⟩:=h;obtain⟨⟨u,ρ1⟩,e1,f⟩:=f.of;refine hi _ _ _ ⟨Z,A,ρ,q,?_⟩;rw[e1];intro v H1 q1 _ _ vm;obtain⟨a,rfl,na,nb,r,t⟩:=vm;exact f _ _ H1 (q1.setO c h0 na nb r t)
def aO (hN:X.N.Nodup)(h:DE X G e b1 m1 g1)(hi:X.N[i]? = some x:=by rfl)(hx:Gv X.env.scope x:=by first|exact Or.inl rfl|exact Or.inr rfl)(c:G.is i=false:=by rfl)(hn:m1≠.P:=by decide)(hs:ado e (some (.Name x p1)) pos.line X.env=pure false:=by rfl)(hf:X.fn x=true\/X.env.scope.names.lookup x=some .local:=by first|exact .inl rfl|exact .inr rfl|assumption):DS X G m (.Assign [.Name x p1] e pos) (aY i g1):=⟨(w9 hN hi hx h.un hs hf).to λ_ _ _=>zi c hn λ_ _ _ h=>h⟩
def cH (hN:X.N.Nodup)(h:DE X G e b1 .O g1)(h0:G.io=true->i≠0:=by decide)(hi:X.N[i]? = some x:=by rfl)(hx:Gv X.env.scope x:=by first|exact Or.inl rfl|exact Or.inr rfl)(c:G.is i=true:=by rfl)(hs:ado e (some (.Name x p1)) pos.line X.env=pure false:=by rfl)(hf:X.fn x=true\/X.env.scope.names.lookup x=some .local:=by first|exact .inl rfl|exact .inr rfl|assumption):DS X G m (.Assign [.Name x p1] e pos) (aY i g1):=⟨(w9 hN hi hx h.un hs hf).to λ_ _ _=>E2 c h0 λ_ _ _ h=>h⟩
noncomputable def sQ (i j:Nat):Ev->SR:=λρ=>match ρ[j]? with
 |some (some u)=>.nx ((ρ.set j none).set i (some u))
 |_=>.stk
theorem xu {y:Str}(hN:X.N.Nodup)(h0:G.io=true->j≠0:=by decide)(hj:X.N[j]? = some y:=by rfl)(hv:Gu X.env.scope y:=by first|exact Or.inl rfl|exact Or.inr (Or.inl rfl)|exact Or.inr (Or.inr rfl))(hd:(y==("__debug__":Str))=false:=by decide)(oJ:(y==("__classdict__":Str))=false:=by decide)(cj:G.is j=true:=by rfl)(hi:X.N[i]? = some x:=by rfl)(hx:Gv X.env.scope x:=by first|exact Or.inl rfl|exact Or.inr rfl)(c:G.is i=false:=by rfl)(hs:ado (.Name y p2) (some (.Name x p1)) pos.line X.env=pure false:=by rfl)(hf:X.fn x=true\/X.env.scope.names.lookup x=some .local:=by first|exact .inl rfl|exact .inr rfl|assumption):DS X G m (.Assign [.Name x p1] (.Name y p2) pos) (sQ i j):=⟨(w9 hN hi hx (jo hj hv hd oJ) hs hf).to λD σ H h00=>by
 obtain⟨Z,A,ρ,q,f⟩:=h00;unfold sQ at f;split at f
 ·rename_i u hu;obtain⟨a,A',h1,r,p⟩:=q.free cj h0 hu;exact⟨.ref a,h1,f A' _ H (r.set c p)⟩
 ·exact f.elim⟩
noncomputable def oO (h:Ev->R (Bool×Ev))(s1 s2:Ev->SR):Ev->SR:=λρ=>SR.of (h ρ) λx=>if x.1=true then s1 x.2 else s2 x.2
theorem dh {a b:List aeO}(hc:DT X G c b1 h1)(ha:xt X G m a s1)(hb:xt X G m b s2):DS X G m (.If c a b pos) (oO h1 s1 s2):=⟨(Tp hc.un ha.un hb.un).to λD σ H h00=>by
 obtain⟨Z,A,ρ,q,f⟩:=h00;obtain⟨⟨k,ρ1⟩,e1,f⟩:=f.of;refine⟨Z,A,ρ,q,?_⟩;rw[e1];intro H1 q1 _ _;cases k with
 |true=>exact⟨Z,A,ρ1,q1,f⟩
 |false=>exact⟨Z,A,ρ1,q1,f⟩⟩
noncomputable def fi (h:Ev->R (Bool×Ev))(s:Ev->SR):Nat->Ev->SR
 |0,_=>.stk
 |n+1,ρ=>SR.of (h ρ) λx=>if x.1=true then match s x.2 with
   | .nx ρ2=>fi h s n ρ2
   | .ct ρ2=>fi h s n ρ2
   | .bk ρ2=>.nx ρ2
   |r=>r
  else .nx x.2
theorem sR (hp:agc (aa1 X.prog X.w) X.A X.env X.xe)(hc:DT X G c b1 h1)(hb:xt X G m body s1):DS X G m (.While c body [] pos) (fi h1 s1 n):=⟨(GA hp hc.un hb.un).to λD σ H h00=>by
 obtain⟨Z,A,ρ,q,f⟩:=h00;refine⟨λk σ H=>∃A ρ,cL X.K G Z A ρ σ H/\qV X.K G Z m (fi h1 s1 k ρ) D,⟨n,A,ρ,q,f⟩,?_⟩;rintro k σ H ⟨A,ρ,q,f⟩;cases k with
 |zero=>exact f.elim
 |succ k=>
  obtain⟨⟨t,ρ1⟩,e1,f⟩:=f.of;refine⟨Z,A,ρ,q,?_⟩;rw[e1];intro H1 q1 _ _;cases t with
  |false=>exact f A σ H1 q1
  |true=>
   refine⟨λσ H=>∃A ρ,cL X.K G Z A ρ σ H/\qV X.K G Z m _ D,λσ' H' z=>⟨k,aed k,z⟩,Z,A,ρ1,q1,?_⟩;cases e2:s1 ρ1 with
   |nx ρ2=>rw[e2] at f;exact λA2 σ2 H2 q2=>⟨A2,ρ2,q2,f⟩
   |ct ρ2=>rw[e2] at f;exact λA2 σ2 H2 q2=>⟨A2,ρ2,q2,f⟩
   |bk ρ2=>rw[e2] at f;exact f
   |rt=>rw[e2] at f;exact f
   |exc=>rw[e2] at f;exact f
   |stk=>rw[e2] at f;exact f⟩
end
end L2
namespace L2
def Wk (K:aai)(p:Bool)(A:aaM->Prop)(us:List U)(J:It)(H1:Hp):Prop:=us.length<=aah/\
 ∀H A',(if p=true then aJ H1 H else eQ A H1 H)->(∀b,A' b->A b\/H1 b=none)->(∀(i:Nat) (u:U),us[i]? = some u->J.go i H/\∀x H',J.yld i H x H'->aJ H H'/\Rp K H' A' u x)/\J.stop us.length H
def V6 (K:aai)(G:Gm)(b p:Bool)(gi:Ev->R (List U×Ev)):TI:=λσ H R=>∃Z A ρ,cL K G Z A ρ σ H/\match gi ρ with
 | .ok (us,ρ')=>∀J H1,cL K G Z A ρ' σ H1->eQ A H H1->(b=false->ρ'=ρ/\aJ H H1)->Wk K p A us J H1->R J H1
 |_=>False
structure DI (X:Cx)(G:Gm)(tg iter:aca)(b p:Bool)(gi:Ev->R (List U×Ev)):Prop where
 un:PI X tg iter (V6 X.K G b p gi)
section
variable {e a b:aca}{es:List aca}{p1:Pos}{b1 b2 b3:Bool}{m m1 m2 m3 mr:Md}{g1 g2 g3:Ev->R (U×Ev)}{h1 h2:Ev->R (Bool×Ev)}{ga:Ev->R (List U×Ev)}{s1 s2:Ev->SR}
def PI.to {t t':TI}(h:PI X tg e t)(i:∀σ H Q,t' σ H Q->t σ H Q):PI X tg e t':=λpins s σ H Q I q=>h pins s σ H Q I (i _ _ _ q)
theorem PI.or {t t':TI}(h:PI X tg e t)(h':PI X tg e t'):PI X tg e (λσ H R=>t σ H R\/t' σ H R):=λpins s σ H Q I q=>by
 rcases q with q|q
 ·exact h pins s σ H Q I q
 ·exact h' pins s σ H Q I q
noncomputable def Xa:Md->Bool
 | .P=>true
 |_=>false
noncomputable def fj (g:Ev->R (U×Ev)):Ev->R (List U×Ev):=λρ=>(g ρ).bind λx=>match x.1 with
 | .lst us=>.ok (us,x.2)
 | .tup us=>.ok (us,x.2)
 | .scr us=>.ok (us,x.2)
 |_=>.stk
theorem LZ (q:cL K G Z A ρ σ H1)(h:vk K G Z m1 A ρ σ H1 (.lst us) v):∃a,v=.ref a/\(∃xs,fX K H1 a xs)/\Wk K (Xa m1) A us (VZ K a) H1:=by
 have hp:=h.pk;obtain⟨a,xs,rfl,rd,l,rs⟩:=hp;refine⟨a,rfl,⟨xs,fX.of rd⟩,l,λH A' hs ha=>?_⟩;have st:H a=some (.lst xs)/\∀(i:Nat) (u:U),us[i]? = some u->∃x,xs[i]? = some x/\Rp K H A' u x:=by
  cases hm:Xa m1 with
  |true=>
   rw[hm] at hs;refine⟨hs a _ rd,λi u hu=>?_⟩;obtain⟨x,h1,h2⟩:=rs.get hu;exact⟨x,h1,h2.re q.mu (eQ.same hs) ha⟩
  |false=>
   rw[hm] at hs;have hn:m1≠.P:=λz=>by subst z;cases hm
   have hr:=h.rp hn;obtain⟨a',xs',e,na,rd',_,rs'⟩:=hr;cases e;refine⟨hs a _ na rd,λi u hu=>?_⟩;obtain⟨x,h1,h2⟩:=rs.get hu;exact⟨x,h1,h2.re q.mu hs ha⟩
 obtain⟨rd2,get⟩:=st;refine⟨λi u hu=>?_,⟨xs,fX.of rd2,by rw[←rs.length];exact aao _⟩⟩;obtain⟨x,h1,h2⟩:=get i u hu;refine⟨⟨xs,x,fX.of rd2,h1⟩,λy H' yl=>?_⟩;obtain⟨e,yl⟩:=yl;have e2:=yl xs (fX.of rd2);rw[h1] at e2;cases e2;subst e;exact⟨aJ.refl _,h2⟩
theorem QK {p:Bool}(q:cL K G Z A ρ σ H1)(h:Pk K H1 A (.tup us) v):∃a,v=.ref a/\(∃xs,gr K H1 a xs)/\Wk K p A us (WL K a) H1:=by
 obtain⟨a,xs,rfl,sq,l,rs⟩:=h;refine⟨a,rfl,⟨xs,gr.of sq⟩,l,λH A' hs ha=>?_⟩;have ex:eQ A H1 H:=by
  cases p with
  |true=>exact eQ.same hs
  |false=>exact hs
 have SH:gr K H a xs:=gr.of (ex a _ (λz=>by have:=q.mu a z;rw[sq] at this;exact this) sq);refine⟨λi u hu=>?_,⟨xs,SH,by rw[←rs.length];exact aao _⟩⟩;obtain⟨x,h1,h2⟩:=rs.get hu;refine⟨⟨xs,x,SH,h1⟩,λy H' yl=>?_⟩;obtain⟨e,yl⟩:=yl;have e2:=yl xs SH;rw[h1] at e2;cases e2;subst e;exact⟨aJ.refl _,h2.re q.mu ex ha⟩
theorem QL {p:Bool}(q:cL K G Z A ρ σ H1)(h:Pk K H1 A (.scr us) v):∃a,v=.ref a/\(∃xs,fX K H1 a xs)/\Wk K p A us (VZ K a) H1:=by
 obtain⟨a,xs,rfl,sq,l,rs⟩:=h;refine⟨a,rfl,⟨xs,sq.sq⟩,l,λH A' hs ha=>?_⟩;have ex:eQ A H1 H:=by
  cases p with
  |true=>exact eQ.same hs
  |false=>exact hs
 have SH:=(sq.to λo y w=>ex a _ (λz=>by have:=q.mu a z;rw[w] at this;exact this) w).sq;refine⟨λi u hu=>?_,⟨xs,SH,by rw[←rs.length];exact aao _⟩⟩;obtain⟨x,h1,h2⟩:=rs.get hu;refine⟨⟨xs,x,SH,h1⟩,λy H' yl=>?_⟩;obtain⟨e,yl⟩:=yl;have e2:=yl xs SH;rw[h1] at e2;cases e2;subst e;exact⟨aJ.refl _,h2.re q.mu ex ha⟩
theorem cy (h:DE X G e b1 m1 g1):DI X G tg e b1 (Xa m1) (fj g1):=⟨((Lo h.un).or (P_ h.un)).to λσ H RR h00=>by
 obtain⟨Z,A,ρ,q,f⟩:=h00;unfold fj at f;cases e1:g1 ρ with
 |stk=>rw[e1] at f;exact f.elim
 |exc=>rw[e1] at f;exact f.elim
 |ok y=>
  obtain⟨u,ρ1⟩:=y;rw[e1] at f;cases u with
  |lst us=>
   refine .inl ⟨Z,A,ρ,q,?_⟩;rw[e1];intro v H1 q1 x1 s1 vm;obtain⟨a,e,l,wk⟩:=LZ q1 vm;exact⟨a,e,l,f _ H1 q1 x1 s1 wk⟩
  |tup us=>
   refine .inr ⟨Z,A,ρ,q,?_⟩;rw[e1];intro v H1 q1 x1 s1 vm;obtain⟨a,e,l,wk⟩:=QK q1 vm.pk;exact⟨a,e,l,f _ H1 q1 x1 s1 wk⟩
  |scr us=>
   refine .inl ⟨Z,A,ρ,q,?_⟩;rw[e1];intro v H1 q1 x1 s1 vm;obtain⟨a,e,l,wk⟩:=QL q1 vm.pk;exact⟨a,e,l,f _ H1 q1 x1 s1 wk⟩
  |_=>exact f.elim⟩
noncomputable def aP (lo:Int)(n:Nat):List U:=(aa7 n).map λi=>.int (lo+(i:Nat))
theorem Hm {lo:Int}{p:Bool}(h:n<=aah):Wk K p A (aP lo n) (V0 lo n) H1:=by
 have hl:(aP lo n).length=n:=by unfold aP;rw[aab,abd]
 refine⟨by rw[hl];exact h,λH A' _ _=>⟨λi u hu=>?_,by rw[hl];exact aao _⟩⟩;unfold aP at hu;rw[aar] at hu;cases e:(aa7 n)[i]? with
 |none=>rw[e] at hu;cases hu
 |some j=>
  rw[e] at hu;obtain⟨l1,l2⟩:=aap.mp e;rw[abd] at l1;rw[afL] at l2;subst l2;cases hu;refine⟨l1,λx H' y=>?_⟩;obtain⟨rfl,rfl⟩:=y;exact⟨aJ.refl _,cU⟩
noncomputable def fB (ga:Ev->R (List U×Ev)):Ev->R (List U×Ev):=λρ=>(ga ρ).bind λx=>match x.1 with
 | [.int j]=>if -1000000<=j/\j<=1000000 then .ok (aP 0 j.toNat,x.2) else .stk
 |_=>.stk
theorem cZ {a:aca}(ha:DA X G [a] b1 false ga)(hm:X.mg "range"=none)(hg:Gl X "range":=by rfl)(hs:aaC [a] X.env=[(false,adB a X.env)]:=by rfl):DI X G tg (.Call (.Name "range" p1) [a] [] pos) b1 false (fB ga):=⟨(EI hg hm ha.un hs).to λσ H RR h00=>by
 obtain⟨Z,A,ρ,q,f⟩:=h00;unfold fB at f;cases e1:ga ρ with
 |stk=>rw[e1] at f;exact f.elim
 |exc=>rw[e1] at f;exact f.elim
 |ok y=>
  obtain⟨us,ρ1⟩:=y;rw[e1] at f;dsimp only[L2.R.bind] at f;refine⟨Z,A,ρ,q,?_⟩;rw[e1];intro vs H1 q1 x1 s1 vm;split at f
  ·rename_i PB ρ' e2;split at e2
   ·rename_i j;split at e2
    ·cases e2;have r:=vm.rps;obtain⟨v,vr,rfl,r1,r2⟩:=r;subst r2;subst r1;exact⟨j,rfl,by lia,by lia,f _ H1 q1 x1 s1 (Hm (by have:aah=16777216:=rfl;lia))⟩
    ·cases e2
   ·cases e2
  ·exact f.elim⟩
noncomputable def d6 (sg:U->Ev->R Ev)(s:Ev->SR):List U->Ev->SR
 | [],ρ=>.nx ρ
 |u::us,ρ=>SR.of (sg u ρ) λρ1=>match s ρ1 with
   | .nx ρ2=>d6 sg s us ρ2
   | .ct ρ2=>d6 sg s us ρ2
   | .bk ρ2=>.nx ρ2
   |r=>r
noncomputable def fm (gi:Ev->R (List U×Ev))(sg:U->Ev->R Ev)(s:Ev->SR):Ev->SR:=λρ=>SR.of (gi ρ) λx=>d6 sg s x.1 x.2
open Classical in
noncomputable def Pkg.lp (Z:Pkg)(A:aaM->Prop)(H:Hp):Pkg:={Z with B:=λb=>if A b/\Z.B b=none then none else H b}
def xv {b:aaM}(h1:A b)(h2:Z.B b=none):(Z.lp A H).B b=none:=by
 unfold Pkg.lp;exact h9 ⟨h1,h2⟩
def m_ {b:aaM}(h:¬(A b/\Z.B b=none)):(Z.lp A H).B b=H b:=by
 unfold Pkg.lp;exact hZ h
def Br {b:aaM}(h:(Z.lp A H).B b=none):(A b/\Z.B b=none)\/H b=none:=by
 by_cases c:A b/\Z.B b=none
 ·exact .inl c
 ·rw[m_ c] at h;exact .inr h
theorem cL.lp (q:cL K G Z A ρ σ H):cL K G (Z.lp A H) A ρ σ H where
 slot:=λi u h=>by
  obtain⟨v,h1,h2⟩:=q.slot i u h;refine⟨v,h1,?_⟩;by_cases c:G.is i=true
  ·rw[h9 c] at h2 ⊢;obtain⟨a,e1,e2,e3,e4,e5⟩:=h2;exact⟨a,e1,e2,xv e2 e3,e4,e5⟩
  ·rw[hZ c] at h2 ⊢;exact h2
 dis:=q.dis
 mu:=q.mu
 sup:=q.sup
 out:=λa h=>(q.out a h).imp id λz=>xv h z
 bas:=λa o h=>by
  by_cases c:A a/\Z.B a=none
  ·rw[xv c.1 c.2] at h;cases h
  ·rw[m_ c] at h;exact h
 io0:=q.io0
 len:=q.len
theorem cL.unlp {A':aaM->Prop}{ρ':Ev}{σ':St}(q:cL K G Z A ρ σ H)(q':cL K G (Z.lp A H) A' ρ' σ' H'):cL K G Z A' ρ' σ' H':=by
 have sub:∀a,(Z.lp A H).B a=none->Z.B a=none:=λa h=>by
  rcases Br h with z|h
  ·exact z.2
  ·cases e:Z.B a with
   |none=>rfl
   |some o=>rw[q.bas a o e] at h;cases h
 exact {
  slot:=λi u h=>by
   obtain⟨v,h1,h2⟩:=q'.slot i u h;refine⟨v,h1,?_⟩;by_cases c:G.is i=true
   ·rw[h9 c] at h2 ⊢;obtain⟨a,e1,e2,e3,e4,e5⟩:=h2;exact⟨a,e1,e2,sub a e3,e4,e5⟩
   ·rw[hZ c] at h2 ⊢;exact h2
  dis:=q'.dis
  mu:=q'.mu
  sup:=q'.sup
  out:=λa h=>(q'.out a h).imp id (sub a)
  bas:=λa o h=>q'.bas a o (by
   rw[m_ (λz=>by rw[h] at z;exact nomatch z.2)];exact q.bas a o h)
  io0:=q'.io0
  len:=q'.len}
theorem qV.lp {r:SR}{D:oP}(q:cL K G Z A ρ σ H)(f:qV K G Z m r D):qV K G (Z.lp A H) m r D:=by
 cases r with
 |nx=>exact λA' σ' H' q'=>f A' σ' H' (q.unlp q')
 |bk=>exact λA' σ' H' q'=>f A' σ' H' (q.unlp q')
 |ct=>exact λA' σ' H' q'=>f A' σ' H' (q.unlp q')
 |rt u ρ'=>
  intro A' σ' H' v q' vm;refine f A' σ' H' v (q.unlp q') ?_;cases m with
  |S=>exact vm
  |P=>exact vm
  |O=>
   obtain⟨a,e,nb,na,t⟩:=vm;refine⟨a,e,?_,na,t⟩;rcases Br nb with z|h
   ·exact z.2
   ·cases e:Z.B a with
    |none=>rfl
    |some o=>rw[q.bas a o e] at h;cases h
 |exc=>exact λH' hb=>f H' λa o h=>hb a o (by
   rw[m_ (λz=>by rw[h] at z;exact nomatch z.2)];exact q.bas a o h)
 |stk=>exact f.elim
theorem cg {gi:Ev->R (List U×Ev)}(hp:agc (aa1 X.prog X.w) X.A X.env X.xe)(hc:X.calm=true)(hi:DI X G tg iter b1 false gi)(hg:DG X G tg sg)(hb:xt X G m body s1)(hs:∀x,acj iter X.env x=pure x:=by intro _;rfl):DS X G m (.For tg iter body [] pos) (fm gi sg s1):=⟨(LH hp hc hi.un hg.un hb.un hs).to λD σ H h00=>by
 obtain⟨Z,A,ρ,q,f⟩:=h00;obtain⟨⟨us,ρ1⟩,e1,f⟩:=f.of;refine⟨Z,A,ρ,q,?_⟩;rw[e1];intro J H1 q1 x1 CB wk;obtain⟨hz,wk⟩:=wk;refine⟨λi k σ H=>i+k=us.length/\∃A' ρ',cL X.K G _ A' ρ' σ H/\qV X.K G _ m (d6 sg s1 (us.drop i) ρ') D,⟨us.length,by lia,A,ρ1,q1.lp,by exact f.lp q1⟩,?_⟩;rintro i k σ H ⟨hk,A',ρ',q',f'⟩;have ex:eQ A H1 H:=λb o nb z=>q'.bas b o (by
  rw[m_ (λy=>nb y.1)];exact z)
 have nw:∀b,A' b->A b\/H1 b=none:=λb z=>by
  rcases q'.out b z with y|y
  ·exact .inl (q1.sup b y)
  ·rcases Br y with w|h
   ·exact .inl w.1
   ·exact .inr h
 obtain⟨w1,w2⟩:=wk H A' (by exact ex) nw;by_cases CA:i<us.length
 ·have eu:=aac CA;obtain⟨go,yl⟩:=w1 i _ eu;rw[abK CA] at f';obtain⟨ρ2,e2,f2⟩:=f'.of;refine .inr ⟨go,λσ H=>∃A' ρ',cL X.K G _ A' ρ' σ H/\qV X.K G _ m _ D,λσ' H' z=>⟨k-1,by lia,by lia,z⟩,λx H' y=>?_⟩;obtain⟨sm,rp⟩:=yl x H' y;refine⟨Z.lp A H1,A',ρ',us[i],q'.same sm,rp,?_⟩;rw[e2];intro σ2 q2 _;refine⟨Z.lp A H1,A',ρ2,q2,?_⟩;cases e3:s1 ρ2 with
  |nx ρ3=>rw[e3] at f2;exact λA3 σ3 H3 q3=>⟨A3,ρ3,q3,f2⟩
  |ct ρ3=>rw[e3] at f2;exact λA3 σ3 H3 q3=>⟨A3,ρ3,q3,f2⟩
  |bk ρ3=>rw[e3] at f2;exact f2
  |rt=>rw[e3] at f2;exact f2
  |exc=>rw[e3] at f2;exact f2
  |stk=>rw[e3] at f2;exact f2
 ·have e:i=us.length:=by lia
  subst e;rw[adq] at f';exact .inl ⟨w2,f' A' σ H q'⟩⟩
end
end L2
namespace L2
noncomputable def i9 (js:List (Option Nat))(ρ:Ev):Ev:=js.map λo=>match o with
 |none=>none
 |some j=>match ρ[j]? with
  |some v=>v
  |none=>none
noncomputable def vd (G:Gm)(js:List (Option Nat)):Gm:=⟨js.map λo=>match o with
 |none=>false
 |some j=>G.is j,false,λ_=>False⟩
noncomputable def oZ:List (Option Nat)->Bool
 | []=>true
 |none::r=>oZ r
 |some j::r=> !(r.contains (some j))&&oZ r
theorem sS:∀{js:List (Option Nat)} {i k j:Nat},oZ js=true->js[i]? = some (some j)->js[k]? = some (some j)->i=k
 | [],_,_,_,_,h,_=>by simp at h
 |none::r,i,k,j,ok,h1,h2=>by
  unfold oZ at ok;cases i with
  |zero=>simp at h1
  |succ i=>
   cases k with
   |zero=>simp at h2
   |succ k=>exact congrArg _ (sS ok (by simpa using h1) (by simpa using h2))
 |some j'::r,i,k,j,ok,h1,h2=>by
  unfold oZ at ok;rw[aau] at ok;have nm:∀n ,r[n]? ≠ some _:=λn h=>by
   have:=aaZ h;simp at ok;exact ok.1 this
  cases i with
  |zero=>
   cases k with
   |zero=>rfl
   |succ k=>simp at h1 h2;subst h1;exact absurd h2 (nm k)
  |succ i=>
   cases k with
   |zero=>simp at h1 h2;subst h2;exact absurd h1 (nm i)
   |succ k=>exact congrArg _ (sS ok.2 (by simpa using h1) (by simpa using h2))
theorem ng (h:(i9 js ρ)[i]? = some (some u)):∃j,js[i]? = some (some j)/\ρ[j]? = some (some u):=by
 unfold i9 at h;rw[aar] at h;cases e:js[i]? with
 |none=>rw[e] at h;cases h
 |some o=>
  rw[e] at h;cases o with
  |none=>cases h
  |some j=>
   refine⟨j,rfl,?_⟩;have h:=aaX h;dsimp only at h;split at h
   ·rename_i v hv;rw[hv,h]
   ·cases h
def nh (h:js[i]? = some (some j))(hv:σ[j]? = some (some v)):(CM js σ)[i]? = some (some v):=by
 unfold CM;rw[aar,h];dsimp only[Option.map];rw[hv]
def sT (h:js[i]? = some (some j)):(vd G js).is i=G.is j:=by
 unfold vd Gm.is;rw[List.getD,aar,h];rfl
def CQ (js:List (Option Nat))(ρ:Ev)(σ:St):(i9 js ρ).length=(CM js σ).length:=by
 unfold i9 CM;rw[aab,aab]
section
variable {ρi:Ev}
theorem CS (q:cL K G Z A ρ σ H)(ok:oZ js=true):cL K (vd G js) ⟨λ_=>False,λ_=>none,0⟩ A (i9 js ρ) (CM js σ) H where
 slot:=λi u h=>by
  obtain⟨j,h1,h2⟩:=ng h;obtain⟨v,h3,h4⟩:=q.slot j u h2;refine⟨v,nh h1 h3,?_⟩;rw[sT h1];by_cases c:G.is j=true
  ·rw[h9 c] at h4 ⊢;obtain⟨a,e1,e2,_,_,e5⟩:=h4;exact⟨a,e1,e2,rfl,.inl id,e5⟩
  ·rw[hZ c] at h4 ⊢;exact h4
 dis:=λi k u w a ci ck ne hi hk si sk=>by
  obtain⟨j,h1,h2⟩:=ng hi;obtain⟨j',Pz,S_⟩:=ng hk;rw[sT h1] at ci;rw[sT Pz] at ck;obtain⟨b,e1,_⟩:=q.own ci h2;obtain⟨b',e1',_⟩:=q.own ck S_;rw[nh h1 e1] at si;rw[nh Pz e1'] at sk;cases si;cases sk;exact q.dis j j' u w a ci ck (λz=>ne (by subst z;exact sS ok h1 Pz)) h2 S_ e1 e1'
 mu:=q.mu
 sup:=λ_ h=>h.elim
 out:=λ_ _=>.inr rfl
 bas:=λ_ _ h=>by cases h
 io0:=λh=>by cases h
 len:=CQ js ρ σ
def L0 (G:Gm)(js:List (Option Nat))(ρ:Ev)(σ:St)(a:aaM):Prop:=∃(i j:Nat) (u:U),js[i]? = some (some j)/\G.is j=true/\ρ[j]? = some (some u)/\σ[j]? = some (some (.ref a))
open Classical in
noncomputable def QM (G:Gm)(js:List (Option Nat))(A:aaM->Prop)(ρ:Ev)(σ:St)(H:Hp):Pkg:=⟨λa=>A a/\¬L0 G js ρ σ a,λa=>if L0 G js ρ σ a then none else H a,0⟩
def sU (h:L0 G js ρ σ a):(QM G js A ρ σ H).B a=none:=by
 unfold QM;exact h9 h
def nj (h:¬L0 G js ρ σ a):(QM G js A ρ σ H).B a=H a:=by
 unfold QM;exact hZ h
theorem QN (q:cL K G Z A ρ σ H)(ok:oZ js=true):cL K (vd G js) (QM G js A ρ σ H) A (i9 js ρ) (CM js σ) H where
 slot:=λi u h=>by
  obtain⟨j,h1,h2⟩:=ng h;obtain⟨v,h3,h4⟩:=q.slot j u h2;refine⟨v,nh h1 h3,?_⟩;rw[sT h1];by_cases c:G.is j=true
  ·rw[h9 c] at h4 ⊢;obtain⟨a,e1,e2,_,_,e5⟩:=h4;subst e1;have cp:L0 G js ρ σ a:=⟨i,j,u,h1,c,h2,h3⟩;exact⟨a,rfl,e2,sU cp,.inl λz=>z.2 cp,e5⟩
  ·rw[hZ c] at h4 ⊢;exact h4
 dis:=(CS q ok).dis
 mu:=q.mu
 sup:=λ_ h=>h.1
 out:=λa h=>by
  by_cases c:L0 G js ρ σ a
  ·exact .inr (sU c)
  ·exact .inl ⟨h,c⟩
 bas:=λa o h=>by
  by_cases c:L0 G js ρ σ a
  ·rw[sU c] at h;cases h
  ·rw[nj c] at h;exact h
 io0:=λh=>by cases h
 len:=CQ js ρ σ
noncomputable def kg:List (Option Nat)->Nat->Option Nat
 | [],_=>none
 |o::r,j=>if o=some j then some 0 else (kg r j).map (·+1)
theorem vW:∀{js:List (Option Nat)} {i j:Nat},kg js j=some i->js[i]? = some (some j)
 | [],_,_,h=>by cases h
 |o::r,i,j,h=>by
  unfold kg at h;split at h
  ·rename_i e;cases h;rw[e];rfl
  ·cases e:kg r j with
   |none=>rw[e] at h;cases h
   |some k=>
    rw[e] at h;cases h;rw[adj];exact vW e
theorem sV:∀{js:List (Option Nat)} {i j:Nat},kg js j=none->js[i]? ≠ some (some j)
 | [],_,_,_=>by simp
 |o::r,i,j,h=>by
  unfold kg at h;split at h
  ·cases h
  ·rename_i ne;cases e:kg r j with
   |some k=>rw[e] at h;cases h
   |none=>
    cases i with
    |zero=>intro z;exact ne (aaX z)
    |succ i=>rw[adj];exact sV e
noncomputable def wb (G:Gm)(js:List (Option Nat))(ρi ρ:Ev):Ev:=ρ.mapIdx λj x=>if (G.is j&&x.isSome)=true then (match kg js j with
 |some i=>(ρi[i]?).getD none
 |none=>x) else x
theorem Bs (h:(wb G js ρi ρ)[j]? = some (some u)):∃u0,ρ[j]? = some (some u0)/\((G.is j=true/\∃i,kg js j=some i/\ρi[i]? = some (some u))\/(u0=u/\(G.is j=false\/kg js j=none))):=by
 unfold wb at h;rw[List.getElem?_mapIdx] at h;cases e:ρ[j]? with
 |none=>rw[e] at h;cases h
 |some x=>
  rw[e] at h;have h:=aaX h;cases x with
  |none=>simp at h
  |some u0=>
   refine⟨u0,rfl,?_⟩;dsimp only at h;by_cases c:G.is j=true
   ·rw[h9 (by rw[c];rfl)] at h;split at h
    ·rename_i i hi;refine .inl ⟨c,i,hi,?_⟩;cases e2:ρi[i]? with
     |none=>rw[e2] at h;cases h
     |some y=>rw[e2] at h;simp at h;rw[h]
    ·rename_i hi;exact .inr ⟨aaX h,.inr hi⟩
   ·have c:=adQ.mpr c;rw[hZ (by rw[c];exact aaz)] at h;exact .inr ⟨aaX h,.inl c⟩
theorem cL.wb {σ4:St}(q:cL K G Z A ρ σ H)(ok:oZ js=true)(q':cL K (vd G js) (QM G js A ρ σ H) A ρi σ4 H')(ho:∀i,(vd G js).is i=true->σ4[i]? = (CM js σ)[i]?):cL K G Z A (L2.wb G js ρi ρ) σ H'/\eQ A H H':=by
 have VM:∀a,L0 G js ρ σ a->A a/\Z.B a=none:=λa h00=>by
  obtain⟨i,j,u,h1,h2,h3,h4⟩:=h00;obtain⟨b,e1,e2,e3,_⟩:=q.own h2 h3;rw[h4] at e1;cases e1;exact⟨e2,e3⟩
 have ex:eQ A H H':=λb o nb z=>q'.bas b o (by rw[nj λc=>nb (VM b c).1];exact z);refine⟨{
  slot:=λj u h=>?_
  dis:=λi k u w a ci ck ne hi hk si sk=>by
   obtain⟨u1,h1,_⟩:=Bs hi;obtain⟨u2,h2,_⟩:=Bs hk;exact q.dis i k u1 u2 a ci ck ne h1 h2 si sk
  mu:=q'.mu
  sup:=q.sup
  out:=q.out
  bas:=λa o h=>q'.bas a o (by
   rw[nj λc=>by rw[(VM a c).2] at h;cases h];exact q.bas a o h)
  io0:=q.io0
  len:=by unfold L2.wb;rw[List.length_mapIdx];exact q.len},ex⟩
 obtain⟨u0,h0,hh⟩:=Bs h;rcases hh with⟨c,i,hi,hu⟩|⟨rfl,hc⟩
 ·have hj:=vW hi;obtain⟨a,e1,e2,e3,e4,_⟩:=q.own c h0;have ci:(vd G js).is i=true:=by rw[sT hj];exact c
  obtain⟨a',k1,k2,_,_,k5⟩:=q'.own ci hu;rw[ho i ci,nh hj e1] at k1;cases k1;refine⟨.ref a,e1,?_⟩;rw[h9 c];exact⟨a,rfl,e2,e3,e4,k5⟩
 ·obtain⟨v,h1,h2⟩:=q.slot j u0 h0;refine⟨v,h1,?_⟩;by_cases c:G.is j=true
  ·rw[h9 c] at h2 ⊢;obtain⟨a,rfl,e2,e3,e4,e5⟩:=h2;have hc:kg js j=none:=by
    rcases hc with hc|hc
    ·rw[c] at hc;cases hc
    ·exact hc
   have nc:¬L0 G js ρ σ a:=λh00=>by
    obtain⟨i,j',u,z1,z2,z3,z4⟩:=h00;have ne:j≠j':=λz=>by subst z;exact sV hc z1
    exact q.dis j j' u0 u a c z2 ne h0 z3 h1 z4
   exact⟨a,rfl,e2,e3,e4,e5.re q.mu ex (λb z=>.inl z) λo z=>q'.bas a o (by rw[nj nc];exact z)⟩
  ·rw[hZ c] at h2 ⊢;exact h2.re q.mu ex λb z=>.inl z
end
noncomputable def yO (f:U->R (Option U)):List U->R (List U)
 | []=>.ok []
 |u::us=>(f u).bind λo=>(yO f us).bind λr=>.ok (match o with
  |some y=>y::r
  |none=>r)
noncomputable def xw (js:List (Option Nat))(sg:U->Ev->R Ev)(gt:Ev->R (Bool×Ev))(ge:Ev->R (U×Ev))(ρ:Ev)(u:U):R (Option U):=
 (sg u (i9 js ρ)).bind λρi=>(gt ρi).bind λc=>if c.1=true then (ge ρi).bind λy=>.ok (some y.1) else .ok none
noncomputable def f6 (gi:Ev->R (List U×Ev))(js:List (Option Nat))(sg:U->Ev->R Ev)(gt:Ev->R (Bool×Ev))(ge:Ev->R (U×Ev)):Ev->R (U×Ev):=λρ=>
 (gi ρ).bind λx=>(yO (xw js sg gt ge x.2) x.1).bind λys=>.ok (.lst ys,x.2)
noncomputable def qW (G:Gm)(js:List (Option Nat))(sg:U->Ev->R Ev)(gt:Ev->R (Bool×Ev))(ge:Ev->R (U×Ev)):List U->Ev->R (List U×Ev)
 | [],ρ=>.ok ([],ρ)
 |u::us,ρ=>(sg u (i9 js ρ)).bind λρi=>(gt ρi).bind λc=>if c.1=true then (ge c.2).bind λy=>(qW G js sg gt ge us (wb G js y.2 ρ)).bind λr=>.ok (y.1::r.1,r.2) else qW G js sg gt ge us (wb G js c.2 ρ)
noncomputable def zj (G:Gm)(gi:Ev->R (List U×Ev))(js:List (Option Nat))(sg:U->Ev->R Ev)(gt:Ev->R (Bool×Ev))(ge:Ev->R (U×Ev)):Ev->R (U×Ev):=λρ=>
 (gi ρ).bind λx=>(qW G js sg gt ge x.1 x.2).bind λy=>.ok (.lst y.1,y.2)
theorem R.bind_ok {α β:Type}{x:R α}{k:α->R β}{b:β}(h:x.bind k=.ok b):∃a,x=.ok a/\k a=.ok b:=by
 cases x with
 |ok a=>exact⟨a,rfl,h⟩
 |exc=>cases h
 |stk=>cases h
section
variable {e:aca}{b1 b2 b3 p:Bool}{m me:Md}{gi:Ev->R (List U×Ev)}{gt:Ev->R (Bool×Ev)}{ge:Ev->R (U×Ev)}
theorem zk (ok:oZ js=true)(hn:me≠.P){Q:VK}(h:tD X.K G b1 .O (f6 gi js sg gt ge) σ H Q) :
  V3 (V6 X.K G b1 p gi) js (λ_=>W7 X.K (vd G js) sg) (λ_=>Gj X.K (vd G js) false gt) (λ_=>tD X.K (vd G js) false me ge) σ H Q:=by
 obtain⟨Z,A,ρ,q,f⟩:=h;obtain⟨⟨us,ρ1⟩,e1,f⟩:=f.bind;obtain⟨all,e2,f⟩:=f.bind;refine⟨Z,A,ρ,q,?_⟩;rw[e1];intro J H1 q1 x1 s1 ⟨hz,wk⟩ Y;refine⟨λi k ys H2=>i+k=us.length/\aJ H1 H2/\∃done rest,yO _ (us.drop i)=.ok rest/\done++rest=all/\aS X.K H2 A done ys/\done.length<=i,
  ⟨us.length,by lia,aJ.refl _,[],all,by exact e2,rfl,aS.nil,aao _⟩,?_⟩
 rintro i k ys H2 ⟨hk,sm,done,rest,e3,e4,rs,hd⟩;have q2:=q1.same sm;obtain⟨w1,w2⟩:=wk H2 A (by split;exact sm;exact eQ.same sm) λb z=>.inl z;by_cases CA:i<us.length
 ·have eu:=aac CA;obtain⟨go,yl⟩:=w1 i _ eu;rw[abK CA] at e3;obtain⟨o,e5,e3⟩:=R.bind_ok e3;obtain⟨r,e6,e3⟩:=R.bind_ok e3;obtain⟨ρi,e7,e5⟩:=R.bind_ok e5;obtain⟨⟨c,ρc⟩,e8,e5⟩:=R.bind_ok e5;refine .inr ⟨go,by rw[←rs.length];lia,λPD H'=>aJ H1 H'/\∃done,done++r=all/\aS X.K H' A done PD/\done.length<=i+1,λPD H' ⟨z1,dn,z2,z3,z4⟩=>⟨k-1,by lia,by lia,z1,dn,r,e6,z2,z3,z4⟩,λx H3 y=>?_⟩;obtain⟨sm3,rp⟩:=yl x H3 y;refine⟨_,A,i9 js ρ1,us[i],(CS (q2.same sm3) ok),rp,?_⟩;rw[e7];intro σ4 q4 _;refine⟨_,A,ρi,q4,?_⟩;rw[e8];intro H5 q5 x5 s5;obtain⟨rfl,sm5⟩:=s5 rfl;cases c with
  |false=>
   cases e5;cases e3;exact⟨(sm.trans sm3).trans sm5,done,e4,(rs.same sm3).same sm5,by lia⟩
  |true=>
   obtain⟨⟨y1,ρy⟩,e9,e5⟩:=R.bind_ok e5;cases e5;cases e3;refine⟨_,A,ρc,q5,?_⟩;rw[e9];intro v H6 q6 x6 s6 vm;obtain⟨rfl,sm6⟩:=s6 rfl;have Y5:=sm3.trans (sm5.trans sm6);exact⟨sm.trans Y5,done++[y1],by rw[aaP];exact e4,(rs.same Y5).append (aS.cons (vm.rp hn) aS.nil),by simp;lia⟩
 ·have e:i=us.length:=by lia
  subst e;rw[adq] at e3;cases e3;rw[aa2] at e4;subst e4;refine .inl ⟨w2,λa na=>?_⟩;have sn:=cF na (.lst ys);exact f _ _ (q2.same sn) ((x1.trans (eQ.same sm)).trans (eQ.same sn)) (oV (oV s1 sm) sn) (CP.e q2 sn ⟨a,rfl,na,cM q2.mu rs na (by lia)⟩)
theorem Hn (ok:oZ js=true)(hn:me≠.P){Q:VK}(h:tD X.K G true .O (zj G gi js sg gt ge) σ H Q) :
  V3 (V6 X.K G b1 false gi) js (λ_=>W7 X.K (vd G js) sg) (λ_=>Gj X.K (vd G js) b2 gt) (λ_=>tD X.K (vd G js) b3 me ge) σ H Q:=by
 obtain⟨Z,A,ρ,q,f⟩:=h;obtain⟨⟨us,ρ1⟩,e1,f⟩:=f.bind;obtain⟨⟨all,ρe⟩,e2,f⟩:=f.bind;refine⟨Z,A,ρ,q,?_⟩;rw[e1];intro J H1 q1 x1 s1 ⟨hz,wk⟩ Y;dsimp only at e2 f;refine⟨λi k ys H2=>i+k=us.length/\eQ A H1 H2/\∃ρ2 done rest,cL X.K G Z A ρ2 σ H2/\qW G js sg gt ge (us.drop i) ρ2=.ok (rest,ρe)/\done++rest=all/\aS X.K H2 A done ys/\done.length<=i,
  ⟨us.length,by lia,eQ.refl,ρ1,[],all,q1,by exact e2,rfl,aS.nil,aao _⟩,?_⟩
 rintro i k ys H2 ⟨hk,ex,ρ2,done,rest,q2,e3,e4,rs,hd⟩;obtain⟨w1,w2⟩:=wk H2 A (by exact ex) λb z=>.inl z;by_cases CA:i<us.length
 ·have eu:=aac CA;obtain⟨go,yl⟩:=w1 i _ eu;rw[abK CA] at e3;obtain⟨ρi,e7,e3⟩:=R.bind_ok e3;obtain⟨⟨c,ρc⟩,e8,e3⟩:=R.bind_ok e3;refine .inr ⟨go,by rw[←rs.length];lia,λPD H'=>eQ A H1 H'/\∃ρ2 done rest,cL X.K G Z A ρ2 σ H'/\qW G js sg gt ge _ ρ2=.ok _/\done++rest=all/\aS X.K H' A done PD/\done.length<=i+1,λPD H' z=>⟨k-1,by lia,by lia,z⟩,λx H3 y=>?_⟩;obtain⟨sm3,rp⟩:=yl x H3 y;have q3:=q2.same sm3;refine⟨QM G js A ρ2 σ H3,A,i9 js ρ2,us[i],QN q3 ok,rp,?_⟩;rw[e7];intro σ4 q4 o4;refine⟨_,A,ρi,q4,?_⟩;rw[e8];intro H5 q5 x5 s5;cases c with
  |false=>
   obtain⟨q6,x6⟩:=q3.wb ok q5 o4;exact⟨ex.trans ((eQ.same sm3).trans x6),_,done,rest,q6,e3,e4,(rs.same sm3).re q3.mu x6 (λb z=>.inl z),by lia⟩
  |true=>
   obtain⟨⟨y1,ρy⟩,e9,e3⟩:=R.bind_ok e3;obtain⟨⟨r,ρr⟩,Yp,e3⟩:=R.bind_ok e3;cases e3;refine⟨_,A,ρc,q5,?_⟩;rw[e9];intro v H6 q6 x6 s6 vm;obtain⟨q7,x7⟩:=q3.wb ok q6 o4;exact⟨ex.trans ((eQ.same sm3).trans x7),_,done++[y1],r,q7,Yp,by rw[aaP];exact e4,((rs.same sm3).re q3.mu x7 (λb z=>.inl z)).append (aS.cons (vm.rp hn) aS.nil),by simp;lia⟩
 ·have e:i=us.length:=by lia
  subst e;rw[adq] at e3;cases e3;rw[aa2] at e4;subst e4;refine .inl ⟨w2,λa na=>?_⟩;have sn:=cF na (.lst ys);exact f _ _ (q2.same sn) ((x1.trans ex).trans (eQ.same sn)) (λz=>nomatch z) (CP.e q2 sn ⟨a,rfl,na,cM q2.mu rs na (by lia)⟩)
structure Ho (X:Cx)(G:Gm)(vG:List aca)(b:Bool)(h:Ev->R (Bool×Ev)):Prop where
 un:EU X vG (Gj X.K G b h)
noncomputable def cR:Ev->R (Bool×Ev):=λρ=>.ok (true,ρ)
def bO:Ho X G [] false cR:=⟨λpins s σ H Q I ⟨Z,A,ρ,q,f⟩=>GW pins s σ H Q I (f H q eQ.refl λ_=>⟨rfl,aJ.refl _⟩)⟩
def sW {h:Ev->R (Bool×Ev)}(hc:DT X G e b1 h):Ho X G [e] b1 h:=⟨GX hc.un⟩
def d_ (lx:afV)(NX N:List Str)(js:List (Option Nat))(hc:X.calm=true)(hi:DI X G tg iter b1 p gi)(yL:∀Y:rG,DG (fY X scope N Y) (vd G js) tg sg/\Ho (fY X scope N Y) (vd G js) vG false gt/\DE (fY X scope N Y) (vd G js) elt false me ge)(hn:me≠.P:=by decide)(ok:oZ js=true:=by rfl)(lC:X.env.scope=lx:=by rfl)(NF:X.N=NX:=by rfl)(hS:vh lx NX scope N js=true:=by decide+kernel)(hs:∀x,acj iter X.env x=pure x:=by intro _;rfl):DE X G (.ListComp elt [⟨tg,iter,vG,0⟩] scope pos) b1 .O (f6 gi js sg gt ge):=⟨(NP lx NX N js hc hi.un (λY=>⟨(yL Y).1.un,(yL Y).2.1.un,(yL Y).2.2.un⟩) lC NF hS hs).to λ_ _ _=>zk ok hn⟩
def sX (lx:afV)(NX N:List Str)(js:List (Option Nat))(hc:X.calm=true)(hi:DI X G tg iter b1 false gi)(yL:∀Y:rG,DG (fY X scope N Y) (vd G js) tg sg/\Ho (fY X scope N Y) (vd G js) vG b2 gt/\DE (fY X scope N Y) (vd G js) elt b3 me ge)(hn:me≠.P:=by decide)(ok:oZ js=true:=by rfl)(lC:X.env.scope=lx:=by rfl)(NF:X.N=NX:=by rfl)(hS:vh lx NX scope N js=true:=by decide+kernel)(hs:∀x,acj iter X.env x=pure x:=by intro _;rfl):DE X G (.ListComp elt [⟨tg,iter,vG,0⟩] scope pos) true .O (zj G gi js sg gt ge):=⟨(NP lx NX N js hc hi.un (λY=>⟨(yL Y).1.un,(yL Y).2.1.un,(yL Y).2.2.un⟩) lC NF hS hs).to λ_ _ _=>Hn ok hn⟩
variable {oK u5:Pos}
def E3 (lx:afV)(NX N:List Str)(js:List (Option Nat))(hN:X.N.Nodup)(hc:X.calm=true)(hi:DI X G tg iter b1 p gi)(yL:∀Y:rG,DG (fY X scope N Y) (vd G js) tg sg/\Ho (fY X scope N Y) (vd G js) vG false gt/\DE (fY X scope N Y) (vd G js) elt false me ge)(hx:X.N[i]? = some x:=by rfl)(hl:Gv X.env.scope x:=by first|exact Or.inl rfl|exact Or.inr rfl)(c:G.is i=false:=by rfl)(hn:me≠.P:=by decide)(ok:oZ js=true:=by rfl)(lC:X.env.scope=lx:=by rfl)(NF:X.N=NX:=by rfl)(hS:vh lx NX scope N js=true:=by decide+kernel)(hw:ado (.ListComp elt [⟨tg,iter,vG,0⟩] scope u5) (some (.Name x oK)) pos.line X.env=pure true:=by rfl)(hf:X.fn x=true\/X.env.scope.names.lookup x=some .local:=by first|exact .inl rfl|exact .inr rfl|assumption)(hs:∀x,acj iter X.env x=pure x:=by intro _;rfl):DS X G m (.Assign [.Name x oK] (.ListComp elt [⟨tg,iter,vG,0⟩] scope u5) pos) (aY i (f6 gi js sg gt ge)):=⟨(GY lx NX N js hN hx hl hc hi.un (λY=>⟨(yL Y).1.un,(yL Y).2.1.un,(yL Y).2.2.un⟩) lC NF hS hw hf hs).to λ_ _ _=>zi c (by decide) λ_ _ _=>zk ok hn⟩
end
end L2
namespace L2
noncomputable def dG (n:Nat)(us:List U):Ev:=us.map some++aa9 (n-us.length) none
noncomputable def dF (m:Md)(n:Nat)(s:Ev->SR):List U->R U:=λus=>match s (dG n us) with
 | .rt u _=>.ok u
 | .nx _=>if m=.S then .ok .non else .stk
 | .exc c u=>.exc c u
 |_=>.stk
noncomputable def zo (n:Nat)(s:Ev->SR):List U->R (U×U):=λus=>match s (dG n us) with
 | .rt u ρ=>match ρ[0]? with
  |some (some w)=>.ok (u,w)
  |_=>.stk
 | .nx ρ=>match ρ[0]? with
  |some (some w)=>.ok (.non,w)
  |_=>.stk
 | .exc c u=>.exc c u
 |_=>.stk
theorem jx (h:(dG n us)[i]? = some (some u)):us[i]? = some u:=by
 unfold dG at h;by_cases c:i<(us.map some).length
 ·rw[acs c,aar] at h;cases e:us[i]? with
  |none=>rw[e] at h;cases h
  |some w=>rw[e] at h;simp at h;rw[h]
 ·rw[abW (by lia),List.getElem?_replicate] at h;split at h
  ·cases h
  ·cases h
def i_ (h:vs[i]? = some v):(start N vs)[i]? = some (some v):=by
 unfold start;have c:i<(vs.map some).length:=by rw[aab];exact (aap.mp h).1
 rw[acs c,aar,h];rfl
def xx (h:us.length=vs.length):(dG N.length us).length=(start N vs).length:=by
 unfold dG start;rw[aaj,aaj,aab,aab,acw,acw,h]
section
variable {w:abq}{base:acP}
theorem xy (G:Gm)(m:Md)(s:Ev->SR)(yP:G.io=false)(i4:∀i,i<ps.length->G.is i=false)(eG:∀(f:aaM) (cA:aak) (A:aba) (outer:List Env) (s0:aaD) (H:Hp) (E:XK),dS k (A.deeper (ac5 x (ai st) s0.heap.objs.size f cA))->
   xt (gG xi P w K mg base N x (ai st) f cA A outer s0 H E).nox G m (bI st) s) :
  (∀vs H Q E,j8 K ps.length (dF m N.length s) m vs H Q E->vs.length=ps.length)/\∀(f:aaM) (cA:aak) (A:aba) (outer:List Env) (s0:aaD) (H:Hp) (vs:List V) (Q:VK) (E:XK),dS k (A.deeper (ac5 x (ai st) s0.heap.objs.size f cA))->j8 K ps.length (dF m N.length s) m vs H Q E->
   ∃t,vc (gG xi P w K mg base N x (ai st) f cA A outer s0 H E).nox (bI st) t/\t {nx:=λ_ H'=>Q .non H',rt:=Q} (start N vs) H:=by
 have hl:∀(us:List U) (A:aaM->Prop) (H:Hp) (Q:VK),Uc K m A H (sP ps.length (dF m N.length s) us) Q->us.length=ps.length:=λus A H Q h=>by
  unfold sP at h;split at h
  ·assumption
  ·exact h.elim
 refine⟨λvs H Q E ⟨us,A,r,_,h⟩=>by rw[←r.length];exact hl us A H Q h,λf cA A outer s0 H vs Q E hr ⟨us,A0,r,mu,h⟩=>⟨_,(eG f cA A outer s0 H E hr).un,?_⟩⟩;have l:=hl us A0 H Q h;unfold sP at h;rw[h9 l] at h;refine⟨⟨A0,H,0⟩,A0,dG N.length us,?_,?_⟩
 ·exact {
   slot:=λi u hu=>by
    have hu:=jx hu;obtain⟨v,h1,h2⟩:=r.get hu;refine⟨v,i_ h1,?_⟩;rw[hZ (by rw[i4 i (by rw[←l];exact (aap.mp hu).1)];exact aaz)];exact h2
   dis:=λi j u w a ci cj ne hi hj si sj=>by
    rw[i4 i (by rw[←l];exact (aap.mp (jx hi)).1)] at ci;cases ci
   mu:=mu
   sup:=λa h=>h
   out:=λa h=>.inl h
   bas:=λa o h=>h
   io0:=λh=>by rw[yP] at h;cases h
   len:=xx r.length}
 ·unfold dF at h;cases e:s _ with
  |nx ρ'=>
   rw[e] at h;dsimp only at h;intro A' σ' H' q;split at h
   ·rename_i hm;subst hm;exact h _ H' q.bas (show Rp K H' A0 .non .non from oX)
   ·exact h.elim
  |rt u ρ'=>
   rw[e] at h;intro A' σ' H' v q vm;refine h v H' q.bas ?_;cases m with
   |S=>exact vm
   |P=>exact vm.elim
   |O=>
    obtain⟨a,e1,e2,e3,e4⟩:=vm;exact⟨a,e1,e2,e4⟩
  |bk=>rw[e] at h;exact h.elim
  |ct=>rw[e] at h;exact h.elim
  |exc=>rw[e] at h;exact h.elim
  |stk=>rw[e] at h;exact h.elim
def Df.fnD (G:Gm)(m:Md)(s:Ev->SR)(d:Df K mg x st)(S:aK N ps (ai st))(hb:∀(kV kN pm:aak) (an:Option aaM) (cA ct:aak) (us:List aak),us.length=ps.length->afJ (abP x x (dC st) (bI st) (ai st) .none kV kN pm an cA ct) ⟨us,[]⟩=pure (ps.zip us))(yP:G.io=false)(i4:∀i,i<ps.length->G.is i=false)(eG:∀(f:aaM) (cA:aak) (A:aba) (outer:List Env) (s0:aaD) (H:Hp) (E:XK),dS k (A.deeper (ac5 x (ai st) s0.heap.objs.size f cA))->
   xt (gG xi P w K mg base N x (ai st) f cA A outer s0 H E).nox G m (bI st) s):Fn P w K mg base x (k+1) ps (j8 K ps.length (dF m N.length s) m):=
 d.fn S hb (xy G m s yP i4 eG).1 (xy G m s yP i4 eG).2
theorem K8.okD (G:Gm)(m:Md)(s:Ev->SR)(F:K8 K x x st f fd)(S:aK N ps (ai st))(yP:G.io=false)(i4:∀i,i<ps.length->G.is i=false)(eG:∀(f:aaM) (cA:aak) (A:aba) (outer:List Env) (s0:aaD) (H:Hp) (E:XK),dS k (A.deeper (ac5 x (ai st) s0.heap.objs.size f cA))->
   xt (gG xi P w K mg base N x (ai st) f cA A outer s0 H E).nox G m (bI st) s):iP P w K mg base xi (k+1) f fd ps (j8 K ps.length (dF m N.length s) m):=
 F.ok S (xy G m s yP i4 eG).1 ((xy G m s yP i4 eG).2 f)
def zp (K:aai):Sp:=λvs H Q _=>∃(a:aaM) (ns:List Int),vs=[.ref a]/\LP K H a (ns.map V.int)/\ns.length<=63/\∀H',Q (.bl true) H'
theorem QO (hO:LD H)(h:fX K H a xs):LP K H a xs:=by
 rcases h with (h|h)|h
 ·rcases hO a with z|⟨o,ys,z⟩
  ·rw[h] at z;cases z
  ·rw[h] at z;cases z
 ·exact .inl h
 ·exact .inr h
theorem zq {H:Hp}{A:aaM->Prop}:∀(ns:List Int),aS K H A (ns.map .int) (ns.map V.int)
 | []=>aS.nil
 |n::ns=>aS.cons cU (zq ns)
theorem QP {f:List U->R U}{fa:aaM}(F:iP P w K mg base xi k fa fd ["script"] (j8 K 1 f .S))(h:∀ns:List Int,ns.length<=63->f [.scr (ns.map .int)]=.ok (.bl true)):iP P w K mg base xi k fa fd ["script"] (zp K):=by
 refine F.imp λvs H Q E ⟨a,ns,e,sc,l,q⟩=>?_;subst e;have hl:(ns.map U.int).length<=aah:=by rw[aab];have:aah=16777216:=rfl;lia
 refine⟨[.scr (ns.map .int)],λ_=>False,aS.cons ?_ aS.nil,λ_ h=>h.elim,?_⟩
 ·exact⟨a,_,rfl,sc,hl,zq ns⟩
 ·have e:sP 1 f [.scr _]=.ok _:=(h9 rfl).trans (h ns l);rw[e];intro v H' sm vm;have vm:=vm;subst vm;exact q H'
theorem Df.fnI (G:Gm)(s:Ev->SR)(d:Df K mg x st)(S:aK N ps (ai st))(hb:∀(kV kN pm:aak) (an:Option aaM) (cA ct:aak) (us:List aak),us.length=ps.length->afJ (abP x x (dC st) (bI st) (ai st) .none kV kN pm an cA ct) ⟨us,[]⟩=pure (ps.zip us))(yP:G.io=true)(h0:G.is 0=true)(i4:∀i,i<ps.length->i≠0->G.is i=false)(eG:∀(f:aaM) (cA:aak) (A:aba) (outer:List Env) (s0:aaD) (H:Hp) (E:XK),dS k (A.deeper (ac5 x (ai st) s0.heap.objs.size f cA))->
   xt (gG xi P w K mg base N x (ai st) f cA A outer s0 H E).nox G .S (bI st) s):Fn P w K mg base x (k+1) ps (QH K ps.length (zo N.length s)):=by
 refine d.fn S hb ?_ ?_
 ·rintro vs H Q E ⟨u0,us,a0,vs',A,rfl,_,_,r,_,h⟩;unfold sP at h;split at h
  ·rename_i e;split at e
   ·rename_i l;rw[aat,←r.length,←l];rfl
   ·cases e
  ·exact h.elim
 ·rintro f cA A outer s0 H vs Q E hr ⟨u0,us,a0,vs',A0,rfl,ha,t0,r,mu,h⟩;refine⟨_,(eG f cA A outer s0 H E hr).un,?_⟩;have l:(u0::us).length=ps.length:=by
   unfold sP at h;by_cases c:(u0::us).length=ps.length
   ·exact c
   ·rw[hZ c] at h;exact h.elim
  unfold sP at h;rw[h9 l] at h
  let Z:Pkg:=⟨A0,λb=>if b=a0 then none else H b,a0⟩
  have zb:=λb o nb z=>by
   show (if b=a0 then none else H b)=some o;rw[hZ nb];exact z
  have rel:cL K G Z A0 (dG N.length (u0::us)) _ H:={
   slot:=λi u hu=>by
    have hu:=jx hu;cases i with
    |zero=>
     simp at hu;subst hu;refine⟨.ref a0,i_ (by simp),?_⟩;rw[h9 h0];exact⟨a0,rfl,ha,by show (if a0=a0 then none else H a0)=none;rw[h9 rfl],.inr ⟨yP,rfl⟩,t0⟩
    |succ i=>
     have hl:=(aap.mp hu).1;obtain⟨v,h1,h2⟩:=r.get hu;refine⟨v,i_ (by exact h1),?_⟩;rw[hZ (by rw[i4 (i+1) (by rw[←l];exact hl) (by lia)];exact aaz)];exact h2
   dis:=λi j u w a ci cj ne hi hj si sj=>by
    have hi:=(aap.mp (jx hi)).1;have hj:=(aap.mp (jx hj)).1;by_cases e:i=0
    ·rw[i4 j (by rw[←l];exact hj) (by lia)] at cj;cases cj
    ·rw[i4 i (by rw[←l];exact hi) e] at ci;cases ci
   mu:=mu
   sup:=λa h=>h
   out:=λa h=>.inl h
   bas:=λa o h=>by
    by_cases c:a=a0
    ·have h:(if a=a0 then none else H a)=some o:=h;rw[h9 c] at h;cases h
    ·have h:(if a=a0 then none else H a)=some o:=h;rw[hZ c] at h;exact h
   io0:=λ_=>⟨i_ (vs:=.ref a0::vs') rfl,h0⟩
   len:=xx (by rw[aat,aat,r.length])}
  have fin:∀(A':aaM->Prop) (ρ':Ev) (σ':St) (H':Hp) (w:U),cL K G Z A' ρ' σ' H'->ρ'[0]? = some (some w)->(∀b o,b≠a0->H b=some o->H' b=some o)/\lE K H' A0 w a0:=λA' ρ' σ' H' w q hw=>by
   obtain⟨a,e1,e2,e3,e4,e5⟩:=q.own h0 hw;rw[(q.io0 yP).1] at e1;cases e1;exact⟨λb o nb z=>q.bas b o (zb b o nb z),e5.mono q.sup⟩
  refine⟨Z,A0,_,rel,?_⟩;unfold zo at h;cases e:s _ with
  |nx ρ'=>
   rw[e] at h;dsimp only at h;intro A' σ' H' q;split at h
   ·rename_i hm;split at hm
    ·rename_i w hw;cases hm;obtain⟨z1,z2⟩:=fin A' ρ' σ' H' _ q hw;exact h _ H' z1 z2 oX
    ·cases hm
   ·exact h.elim
  |rt u ρ'=>
   rw[e] at h;dsimp only at h;intro A' σ' H' v q vm;split at h
   ·rename_i hm;split at hm
    ·rename_i w hw;cases hm;obtain⟨z1,z2⟩:=fin A' ρ' σ' H' _ q hw;exact h _ H' z1 z2 vm
    ·cases hm
   ·exact h.elim
  |bk=>rw[e] at h;exact h.elim
  |ct=>rw[e] at h;exact h.elim
  |exc=>rw[e] at h;exact h.elim
  |stk=>rw[e] at h;exact h.elim
end
section
variable {e e2:aca}{p1:Pos}{y:Str}{b1 b2:Bool}{m m1 m2:Md}{g1 g2:Ev->R (U×Ev)}
noncomputable def vX (i:Nat)(gv gk:Ev->R (U×Ev)):Ev->SR:=λρ=>SR.of (gv ρ) λx=>if Hi x.2 i=true then SR.of (gk x.2) λy=>match y.1 with
 | .int k=>match y.2[i]? with
  |some (some (.lst us))=>match EN us.length k with
   |some j=>.nx (y.2.set i (some (.lst (us.set j x.1))))
   |none=>.stk
  |_=>.stk
 |_=>.stk
 else .stk
theorem xA (he:DE X G e b1 m1 g1)(hk:DE X G e2 b2 m2 g2)(hn:m1≠.P:=by decide)(hN:X.N[i]? = some y:=by rfl)(hv:Gu X.env.scope y:=by first|exact Or.inl rfl|exact Or.inr (Or.inl rfl)|exact Or.inr (Or.inr rfl))(c:G.is i=true:=by rfl)(hd:(y==("__debug__":Str))=false:=by decide)(oJ:(y==("__classdict__":Str))=false:=by decide)(ha:∀v,assign (.Subscript (.Name y p1) e2 p2) X.env v=(do
   let ov ←holding [v] (adB (.Name y p1) X.env)
   let iv ←holding [v,ov] (adB e2 X.env)
   standAt p2
   holding [v,ov,iv] (setItem ov iv v)
   release [v,ov,iv] []):=by intro _;rfl)(hs:swapsWithSole [.Subscript (.Name y p1) e2 p2] e pos.line X.env=pure false:=by rfl)(hw:swappedStores [.Subscript (.Name y p1) e2 p2] e X.env=pure none:=by rfl)(h1:(adt [.Subscript (.Name y p1) e2 p2] X.env).map (·.2)=[assign (.Subscript (.Name y p1) e2 p2) X.env]:=by rfl):DS X G m (.Assign [.Subscript (.Name y p1) e2 p2] e pos) (vX i g1 g2):=⟨(P8 he.un (P7 (jo hN hv hd oJ) hk.un GL ha) hs hw h1).to λD σ H h00=>by
 obtain⟨Z,A,ρ,q,f⟩:=h00;obtain⟨⟨u,ρ1⟩,e1,f⟩:=f.of;refine⟨Z,A,ρ,q,?_⟩;rw[e1];intro v H1 q1 x1 s1 vm;split at f
 ·rename_i hl;obtain⟨u00,hu0⟩:=xq hl;obtain⟨a0,h0,_⟩:=q1.own c hu0;obtain⟨⟨k,ρ2⟩,e2,f⟩:=f.of;refine⟨.ref a0,h0,Z,A,ρ1,q1,?_⟩;rw[e2];intro v2 H2 q2 x2 s2 wX;cases k with
  |int kk=>
   dsimp only at f;split at f
   ·rename_i us hu;split at f
    ·rename_i j hj;obtain⟨a0',k1,k2,_,_,k5⟩:=q2.own c hu;rw[h0] at k1;cases k1;obtain⟨xs,t1,t2,t3⟩:=k5;refine⟨a0,xs,kk,j,rfl,wX.pk.int,t1,by rw[←t3.length];exact hj,?_⟩;have em:∀b o,b≠a0->H2 b=some o->cT H2 a0 (.lst (xs.set j v)) b=some o:=λb o nb z=>by rw[aI nb];exact z
     have ex:eQ A H2 _:=λb o nb z=>em b o (λy=>nb (y▸k2)) z;refine f A σ _ (q2.put c hu h0 em ⟨xs.set j v,bj,by rw[abQ];exact t2,?_⟩);exact (t3.re q2.mu ex λb z=>.inl z).set j (((vm.rp hn).re q1.mu x2 λb z=>.inl z).re q2.mu ex λb z=>.inl z)
    ·exact f.elim
   ·exact f.elim
  |_=>exact f.elim
 ·exact f.elim⟩
end
end L2
namespace L2
def Hq:R2:=λx y H Q=>∃l b xs zs,x=.ref l/\y=.ref b/\H l=some (.lst xs)/\H b=some (.lst zs)/\xs.length+zs.length<=aah/\∀p,H p=none->Q (.ref p) (cT H p (.lst (xs++zs)))
theorem L4:j6 X (adO .Add) Hq:=by
 intro pins s σ H x y v u Q I rx ry h;obtain⟨l,b,xs,zs,rfl,rfl,hH,hB,hz,q⟩:=h;cases rx;cases ry;obtain⟨z,aD,n,r,hl,e⟩:=I.lstM hH;obtain⟨z2,its2,n2,r2,Gp,e2⟩:=I.lstM hB;refine PySem.P.add_list e e2 ?_ (by rw[aax,aax];lia);have ea:aD.toArray++its2.toArray=(aD++its2).toArray:=by simp
 rw[ea];exact⟨.ref _,_,I.lnew (r.append r2) (by rw[aaj];lia),rfl,q _ I.fresh⟩
noncomputable def cB:U->U->R U:=λu w=>match u,w with
 | .int i,.int j=>.ok (.int (i+j))
 | .tup a,.tup b=>if a.length+b.length<=aah then .ok (.tup (a++b)) else .stk
 | .lst a,.lst b=>if a.length+b.length<=aah then .ok (.lst (a++b)) else .stk
 |_,_=>.stk
noncomputable def Ue:U->U->R U:=λu w=>match u,w with
 | .lst a,.lst b=>if a.length+b.length<=aah then .ok (.lst (a++b)) else .stk
 |_,_=>.stk
def NT:R2:=λx y H Q=>(EK λi j=>.int (i+j)) x y H Q\/G9 x y H Q\/Hq x y H Q
def bJ:j6 X (adO .Add) NT:=Qd.or (G_.or L4)
theorem L5:fz K Hq .O Ue:=λA H x y u w z Q hx hy mu e q=>by
 unfold Ue at e;split at e
 ·split at e
  ·rename_i hl;cases e;obtain⟨a,xs,rfl,h1,l1,r1⟩:=hx;obtain⟨b,ys,rfl,h2,l2,r2⟩:=hy;exact⟨a,b,xs,ys,rfl,rfl,h1,h2,by rw[←r1.length,←r2.length];exact hl,λp hp=>q _ _ (cF hp _) ⟨p,rfl,hp,cM mu (r1.append r2) hp (by rw[aaj];exact hl)⟩⟩
  ·cases e
 ·cases e
theorem bK:fz K NT .S cB:=λA H x y u w z Q hx hy mu e q=>by
 unfold cB at e;split at e
 ·cases e;exact .inl ⟨_,_,hx.int,hy.int,q _ H (aJ.refl _) (show Rp K H A _ _ from cU)⟩
 ·split at e
  ·rename_i hl;cases e;obtain⟨a,xs,rfl,h1,l1,r1⟩:=hx;obtain⟨b,ys,rfl,h2,l2,r2⟩:=hy;refine .inr (.inl ⟨a,b,xs,ys,rfl,rfl,h1,h2,by rw[←r1.length,←r2.length];exact hl,λr H' sm hr=>q _ H' sm (show Rp K H' A _ _ from ?_)⟩);exact⟨r,_,rfl,hr,by rw[aaj];exact hl,(r1.append r2).same sm⟩
  ·cases e
 ·refine .inr (.inr (L5 A H x y _ _ z Q hx hy mu (e) λv H' sm vm=>q v H' sm ?_));obtain⟨a,rfl,na,t⟩:=vm;exact t.rp (λb h=>.inl h) λh=>by have:=mu a h;rw[na] at this;exact this
 ·cases e
noncomputable def pI (c:Int->Int->Bool)(f:Int->Int->Int):U->U->R U:=λu w=>match u,w with
 | .int i,.int j=>if c i j=true then .ok (.int (f i j)) else .stk
 |_,_=>.stk
theorem CT {C:Int->Int->Prop}{c:Int->Int->Bool}{f:Int->Int->Int}(h:∀i j,c i j=true->C i j):fz K (rI C λi j=>.int (f i j)) .S (pI c f):=λA H x y u w z Q hx hy mu e q=>by
 unfold pI at e;split at e
 ·rename_i i j;split at e
  ·rename_i hc;cases e;exact⟨i,j,hx.int,hy.int,h i j hc,q _ H (aJ.refl _) (show Rp K H A _ _ from cU)⟩
  ·cases e
 ·cases e
noncomputable def E4:U->U->R U:=λu w=>match u,w with
 | .int i,.int j=>.ok (.int (i-j))
 |_,_=>.stk
theorem CU:fz K (EK λi j=>.int (i-j)) .S E4:=λA H x y u w z Q hx hy mu e q=>by
 unfold E4 at e;split at e
 ·cases e;exact⟨_,_,hx.int,hy.int,q _ H (aJ.refl _) (show Rp K H A _ _ from cU)⟩
 ·cases e
noncomputable def jy (i j:Int):Bool:=(decide (-(2 ^ 64)<i)&&decide (i<2 ^ 64))||(decide (-(2 ^ 64)<j)&&decide (j<2 ^ 64))
noncomputable def d7:U->U->R U:=pI jy (·*·)
def dj:fz K (rI Lp λi j=>.int (i*j)) .S d7:=CT λi j h=>by
 unfold jy at h;simp only[acO,aau,decide_eq_true_eq] at h;exact h
noncomputable def vn (_ j:Int):Bool:=decide (0<j)&&decide (j<18446744073709551616)
noncomputable def f7:U->U->R U:=pI vn (· / ·)
def fo:fz K (rI G5 λi j=>.int (i / j)) .S f7:=CT λi j h=>by
 unfold vn at h;simp only[aau,decide_eq_true_eq] at h;exact h
noncomputable def vo:U->U->R U:=pI (λ_ j=>decide (0<j)) (· % ·)
def jA:fz K (rI (λ_ j=>0<j) λi j=>.int (i % j)) .S vo:=CT λi j h=>of_decide_eq_true h
noncomputable def L6 (i j:Int):Bool:=decide (0<=j)&&decide (j<=1000000)&&decide (i.natAbs<2 ^ 64)
noncomputable def L7:U->U->R U:=pI L6 λi j=>i ^ j.toNat
def CV:fz K (rI TB λi j=>.int (i ^ j.toNat)) .S L7:=CT λi j h=>by
 unfold L6 at h;simp only[aau,decide_eq_true_eq] at h;exact⟨h.1.1,h.1.2,h.2⟩
noncomputable def L8:U->R U:=λu=>match u with
 | .int i=>.ok (.int (-i))
 |_=>.stk
theorem L9:QG K (rU λi=>.int (-i)) .S L8:=λA H x u z Q hx mu e q=>by
 unfold L8 at e;split at e
 ·cases e;exact⟨_,hx.int,q _ H (aJ.refl _) (show Rp K H A _ _ from cU)⟩
 ·cases e
noncomputable def pC (f:Int->Int->Bool):U->U->R U:=λu w=>match u,w with
 | .int i,.int j=>.ok (.bl (f i j))
 |_,_=>.stk
theorem Hr {f:Int->Int->Bool}:fz K (EK λi j=>.bl (f i j)) .S (pC f):=λA H x y u w z Q hx hy mu e q=>by
 unfold pC at e;split at e
 ·cases e;exact⟨_,_,hx.int,hy.int,q _ H (aJ.refl _) (show Rp K H A _ _ from fA)⟩
 ·cases e
noncomputable def Ug:U->U->R U:=pC λi j=>decide (i<j)
noncomputable def NU:U->U->R U:=pC λi j=>decide (j<i)
noncomputable def Xc:U->U->R U:=pC λi j=>decide (j<=i)
mutual
noncomputable def o8:U->Option D
 | .non=>some .non
 | .bl b=>some (.bl b)
 | .int i=>some (.int i)
 | .str x=>some (.str x)
 | .tup us=>(ja us).map .tup
 | .lst us=>(ja us).map .lst
 | .dct _ _=>none
 | .scr _=>none
 | .obj _ _=>none
noncomputable def ja:List U->Option (List D)
 | []=>some []
 |u::us=>(o8 u).bind λd=>(ja us).map λds=>d::ds
end
mutual
theorem xB {H:Hp}{A:aaM->Prop}:∀{u:U} {v:V} {d:D},Rp K H A u v->o8 u=some d->iG K H d v
 | .non,v,d,h,e=>by unfold o8 at e;cases e;unfold Rp at h;unfold iG;exact h
 | .bl b,v,d,h,e=>by unfold o8 at e;cases e;unfold Rp at h;unfold iG;exact h
 | .int b,v,d,h,e=>by unfold o8 at e;cases e;unfold Rp at h;unfold iG;exact h
 | .str b,v,d,h,e=>by unfold o8 at e;cases e;unfold Rp at h;unfold iG;exact h
 | .tup us,v,d,h,e=>by
  unfold o8 at e;cases e2:ja us with
  |none=>rw[e2] at e;cases e
  |some ds=>
   rw[e2] at e;cases e;unfold Rp at h;unfold iG;obtain⟨a,xs,r,q,l,z⟩:=h;exact⟨a,xs,r,gr.of q,jB z e2⟩
 | .lst us,v,d,h,e=>by
  unfold o8 at e;cases e2:ja us with
  |none=>rw[e2] at e;cases e
  |some ds=>
   rw[e2] at e;cases e;unfold Rp at h;unfold iG;obtain⟨a,xs,r,_,q,l,z⟩:=h;exact⟨a,xs,r,fX.of q,jB z e2⟩
 | .dct _ _,v,d,h,e=>by unfold o8 at e;cases e
 | .scr _,v,d,h,e=>by unfold o8 at e;cases e
 | .obj _ _,v,d,h,e=>by unfold o8 at e;cases e
theorem jB {H:Hp}{A:aaM->Prop}:∀{us:List U} {vs:List V} {ds:List D},aS K H A us vs->ja us=some ds->fD K H ds vs
 | [],vs,ds,h,e=>by unfold ja at e;cases e;unfold aS at h;unfold fD;exact h
 |u::us,vs,ds,h,e=>by
  unfold ja at e;cases e1:o8 u with
  |none=>rw[e1] at e;cases e
  |some d=>
   cases e2:ja us with
   |none=>rw[e1,e2] at e;cases e
   |some ds'=>
    rw[e1,e2] at e;cases e;unfold aS at h;unfold fD;obtain⟨x,r,q,p,z⟩:=h;exact⟨x,r,q,xB p e1,jB z e2⟩
end
theorem xC {d:D}(h:Pk K H A u v)(e:o8 u=some d):iG K H d v:=by
 cases u with
 |lst us=>
  unfold o8 at e;cases e2:ja us with
  |none=>rw[e2] at e;cases e
  |some ds=>
   rw[e2] at e;cases e;obtain⟨a,xs,r,q,l,z⟩:=h;exact⟨a,xs,r,fX.of q,jB z e2⟩
 |dct=>cases e
 |scr=>cases e
 |tup us=>exact xB (by exact h) e
 |_=>exact xB (A:=A) (by exact h) e
noncomputable def qX (u w:U):R Bool:=match o8 u,o8 w with
 |some d,some d'=>if eB d<=30 then .ok (iQ d d') else .stk
 |_,_=>.stk
noncomputable def L_ (f:Bool->Bool):U->U->R U:=λu w=>(qX u w).bind λb=>.ok (.bl (f b))
theorem sY {f:Bool->Bool}:fz K (Qw K f) .S (L_ f):=λA H x y u w z Q hx hy mu e q=>by
 unfold L_ qX at e;obtain⟨b,e1,e2⟩:=R.bind_ok e;split at e1
 ·rename_i d d' h1 h2;split at e1
  ·rename_i hd;cases e1;cases e2;exact⟨d,d',xC hx h1,xC hy h2,hd,q _ H (aJ.refl _) (show Rp K H A _ _ from fA)⟩
  ·cases e1
 ·cases e1
noncomputable def sZ:U->Bool
 | .non=>true
 |_=>false
theorem zt (h:Pk K H A u v):decide (v=.non)=sZ u:=by
 cases u<;>unfold Pk at h
 case tup=>obtain⟨a,xs,rfl,_⟩:=h;rfl
 case lst=>obtain⟨a,xs,rfl,_⟩:=h;rfl
 case dct=>obtain⟨a,xs,rfl,_⟩:=h;rfl
 case scr=>obtain⟨a,xs,rfl,_⟩:=h;rfl
 case obj=>obtain⟨a,C,dx,xs,rfl,_⟩:=h;rfl
 all_goals (subst h;rfl)
noncomputable def Bt (f:Bool->Bool):U->U->R U:=λu w=>match w with
 | .non=>.ok (.bl (f (sZ u)))
 |_=>.stk
theorem Ma:fz K (λx y H Q=>y=.non/\Q (.bl (decide (x=.non))) H) .S (Bt id):=λA H x y u w z Q hx hy mu e q=>by
 unfold Bt at e;split at e
 ·cases e;refine⟨by exact hy,q _ H (aJ.refl _) ?_⟩;rw[zt hx];exact (show Rp K H A _ _ from fA)
 ·cases e
theorem Hs:fz K (λx y H Q=>y=.non/\Q (.bl (!decide (x=.non))) H) .S (Bt not):=λA H x y u w z Q hx hy mu e q=>by
 unfold Bt at e;split at e
 ·cases e;refine⟨by exact hy,q _ H (aJ.refl _) ?_⟩;rw[zt hx];exact (show Rp K H A _ _ from fA)
 ·cases e
theorem Bu {i:Int}{z:U}(r:aS K H A us xs)(e:mP us i=some z):∃v,mP xs i=some v/\Rp K H A z v:=by
 unfold mP at e ⊢;rw[←r.length];cases h:EN us.length i with
 |none=>rw[h] at e;cases e
 |some j=>
  rw[h] at e;obtain⟨v,h1,h2⟩:=r.get (e);exact⟨v,h1,h2⟩
noncomputable def rK:U->U->R U:=λu w=>match u,w with
 | .lst us,.int i=>match mP us i with
  |some z=>.ok z
  |none=>.stk
 | .tup us,.int i=>match mP us i with
  |some z=>.ok z
  |none=>.stk
 | .scr us,.int i=>match mP us i with
  |some z=>.ok z
  |none=>.stk
 | .str x,.int i=>match mP x.cps.toList i with
  |some c=>if x.length<=aah then .ok (.str ⟨#[c]⟩) else .stk
  |none=>.stk
 |_,_=>.stk
theorem eS:fz K (Yx K) .S rK:=λA H x y u w z Q hx hy mu e q=>by
 unfold rK at e;split at e
 ·split at e
  ·rename_i z' hz;cases e;obtain⟨a,xs,rfl,h1,l1,r1⟩:=hx;obtain⟨v,h2,h3⟩:=Bu r1 hz;exact .inl ⟨a,xs,_,v,rfl,hy.int,fX.of h1,h2,q _ H (aJ.refl _) h3⟩
  ·cases e
 ·split at e
  ·rename_i z' hz;cases e;obtain⟨a,xs,rfl,h1,l1,r1⟩:=hx;obtain⟨v,h2,h3⟩:=Bu r1 hz;exact .inr (.inl ⟨a,xs,_,v,rfl,hy.int,gr.of h1,h2,q _ H (aJ.refl _) h3⟩)
  ·cases e
 ·split at e
  ·rename_i z' hz;cases e;obtain⟨a,xs,rfl,h1,l1,r1⟩:=hx;obtain⟨v,h2,h3⟩:=Bu r1 hz;exact .inl ⟨a,xs,_,v,rfl,hy.int,h1.sq,h2,q _ H (aJ.refl _) h3⟩
  ·cases e
 ·split at e
  ·rename_i z' hz;split at e
   ·rename_i hl;cases e;exact .inr (.inr ⟨_,_,z',hx.str,hy.int,hl,hz,q _ H (aJ.refl _) (show Rp K H A _ _ from QD)⟩)
   ·cases e
  ·cases e
 ·cases e
noncomputable def iD {α:Type}(xs:List α)(lo hi:Option Int):List α:=(xs.drop (HT.sIx xs.length 0 lo)).take (HT.sIx xs.length xs.length hi-HT.sIx xs.length 0 lo)
theorem kh {α:Type}(xs:List α)(lo hi:Option Int):(iD xs lo hi).length<=xs.length:=by
 unfold iD;rw[aaE,abb];lia
def xD (r:aS K H A us xs)(lo hi:Option Int):aS K H A (iD us lo hi) (xf xs lo hi):=by
 unfold iD xf;rw[←r.length];exact (r.drop _).take _
def c9:GJ X (λx lo hi H Q=>LB X.K x lo hi H Q\/G8 X.K x lo hi H Q):=LC.or LM
noncomputable def ki:U->Option Int->Option Int->R U:=λu lo hi=>match u with
 | .lst us=>.ok (.lst (iD us lo hi))
 | .scr us=>.ok (.lst (iD us lo hi))
 | .tup us=>.ok (.tup (iD us lo hi))
 |_=>.stk
noncomputable def Uh:U->Option Int->Option Int->R U:=λu lo hi=>match u with
 | .lst us=>.ok (.lst (iD us lo hi))
 | .scr us=>.ok (.lst (iD us lo hi))
 |_=>.stk
theorem CW:Hl K (LB K) .O Uh:=λA H x u lo hi z Q hx mu e q=>by
 unfold Uh at e;split at e
 ·cases e;obtain⟨a,xs,rfl,h1,l1,r1⟩:=hx;exact⟨a,xs,rfl,fX.of h1,λp hp=>q _ _ (cF hp _) ⟨p,rfl,hp,cM mu (xD r1 lo hi) hp (aaR (kh _ _ _) l1)⟩⟩
 ·cases e;obtain⟨a,xs,rfl,h1,l1,r1⟩:=hx;exact⟨a,xs,rfl,h1.sq,λp hp=>q _ _ (cF hp _) ⟨p,rfl,hp,cM mu (xD r1 lo hi) hp (aaR (kh _ _ _) l1)⟩⟩
 ·cases e
theorem NV (mu:∀a,A a->Mu (H a))(vm:CP K .O A H H' u v):Rp K H' A u v:=by
 obtain⟨a,rfl,na,t⟩:=vm;exact t.rp (λb h=>.inl h) λh=>by have:=mu a h;rw[na] at this;exact this
theorem fH:Hl K (λx lo hi H Q=>LB K x lo hi H Q\/G8 K x lo hi H Q) .S ki:=λA H x u lo hi z Q hx mu e q=>by
 unfold ki at e;split at e
 ·cases e;exact .inl (CW A H x _ lo hi _ Q hx mu rfl λv H' sm vm=>q v H' sm (NV mu vm))
 ·cases e;exact .inl (CW A H x _ lo hi _ Q hx mu rfl λv H' sm vm=>q v H' sm (NV mu vm))
 ·cases e;obtain⟨a,xs,rfl,h1,l1,r1⟩:=hx;refine .inr ⟨a,xs,rfl,h1,λr H' sm hr=>q _ H' sm (show Rp K H' A _ _ from ?_)⟩;exact⟨r,_,rfl,hr,aaR (kh _ _ _) l1,(xD r1 lo hi).same sm⟩
 ·cases e
end L2
namespace L2
section
theorem K9.one (h:K9 K H A [u] vs):∃v,vs=[v]/\Pk K H A u v:=by
 obtain⟨x,r,rfl,p,q⟩:=h;subst q;exact⟨x,rfl,p⟩
theorem K9.two {w:U}(h:K9 K H A [u,w] vs):∃v v',vs=[v,v']/\Pk K H A u v/\Pk K H A w v':=by
 obtain⟨x,r,rfl,p,q⟩:=h;obtain⟨v,rfl,q'⟩:=K9.one q;exact⟨x,v,rfl,p,q'⟩
noncomputable def iR:List U->R U:=λus=>match us with
 | [.lst xs]=>.ok (.int xs.length)
 | [.tup xs]=>.ok (.int xs.length)
 | [.scr xs]=>.ok (.int xs.length)
 | [.str x]=>if x.length<=aah then .ok (.int x.length) else .stk
 |_=>.stk
theorem eJ:lW K (λxs H Q=>∃x n,xs=[x]/\TJ K x H n/\Q (.int n) H) .S iR:=λA H vs us z Q h mu e q=>by
 unfold iR at e;split at e
 ·rename_i xs;cases e;obtain⟨v,rfl,p⟩:=h.one;obtain⟨a,ys,rfl,h1,l1,r1⟩:=p;exact⟨_,xs.length,rfl,.inl ⟨ys,fX.of h1,r1.length⟩,q _ H (aJ.refl _) (show Rp K H A _ _ from cU)⟩
 ·rename_i xs;cases e;obtain⟨v,rfl,p⟩:=h.one;obtain⟨a,ys,rfl,h1,l1,r1⟩:=p;exact⟨_,xs.length,rfl,.inr ⟨ys,gr.of h1,r1.length⟩,q _ H (aJ.refl _) (show Rp K H A _ _ from cU)⟩
 ·rename_i xs;cases e;obtain⟨v,rfl,p⟩:=h.one;obtain⟨a,ys,rfl,h1,l1,r1⟩:=p;exact⟨_,xs.length,rfl,.inl ⟨ys,h1.sq,r1.length⟩,q _ H (aJ.refl _) (show Rp K H A _ _ from cU)⟩
 ·rename_i x;split at e
  ·rename_i hl;cases e;obtain⟨v,rfl,p⟩:=h.one;have:=p.str;subst this;exact⟨_,x.length,rfl,⟨hl,rfl⟩,q _ H (aJ.refl _) (show Rp K H A _ _ from cU)⟩
  ·cases e
 ·cases e
noncomputable def c_:List U->R U:=λus=>match us with
 | [.lst xs]=>.ok (.tup xs)
 | [.tup xs]=>.ok (.tup xs)
 |_=>.stk
theorem bQ:lW K (λxs H Q=>∃p ys,xs=[.ref p]/\((fX K H p ys/\∀l,H l=none->Q (.ref l) (cT H l (.tup ys)))\/(gr K H p ys/\Q (.ref p) H))) .S c_:=λA H vs us z Q h mu e q=>by
 unfold c_ at e;split at e
 ·cases e;obtain⟨v,rfl,p⟩:=h.one;obtain⟨a,ys,rfl,h1,l1,r1⟩:=p;exact⟨a,ys,rfl,.inl ⟨fX.of h1,λl hl=>q _ _ (cF hl _) (oY r1 hl l1)⟩⟩
 ·cases e;obtain⟨v,rfl,p⟩:=h.one;have p':=p;obtain⟨a,ys,rfl,h1,l1,r1⟩:=p;refine⟨a,ys,rfl,.inr ⟨gr.of h1,q _ H (aJ.refl _) (show Rp K H A _ _ from ?_)⟩⟩;exact p'
 ·cases e
noncomputable def E5:List U->R U:=λus=>match us with
 | [.int i]=>.ok (.int (if i<0 then -i else i))
 |_=>.stk
theorem CY:lW K (λxs H Q=>∃i,xs=[.int i]/\Q (.int (if i<0 then -i else i)) H) .S E5:=λA H vs us z Q h mu e q=>by
 unfold E5 at e;split at e
 ·cases e;obtain⟨v,rfl,p⟩:=h.one;exact⟨_,by rw[p.int],q _ H (aJ.refl _) (show Rp K H A _ _ from cU)⟩
 ·cases e
noncomputable def CZ:List U->R U:=λus=>match us with
 | [.int i,.int j]=>.ok (.int (if j>i then j else i))
 |_=>.stk
theorem Ht:lW K (λxs H Q=>∃i j,xs=[.int i,.int j]/\Q (.int (if j>i then j else i)) H) .S CZ:=λA H vs us z Q h mu e q=>by
 unfold CZ at e;split at e
 ·cases e;obtain⟨v,w,rfl,p,p'⟩:=h.two;exact⟨_,_,by rw[p.int,p'.int],q _ H (aJ.refl _) (show Rp K H A _ _ from cU)⟩
 ·cases e
noncomputable def s_:List U->R U:=λus=>match us with
 | [.int i,.int j]=>.ok (.int (if j<i then j else i))
 |_=>.stk
theorem tf:lW K (λxs H Q=>∃i j,xs=[.int i,.int j]/\Q (.int (if j<i then j else i)) H) .S s_:=λA H vs us z Q h mu e q=>by
 unfold s_ at e;split at e
 ·cases e;obtain⟨v,w,rfl,p,p'⟩:=h.two;exact⟨_,_,by rw[p.int,p'.int],q _ H (aJ.refl _) (show Rp K H A _ _ from cU)⟩
 ·cases e
noncomputable def dz:List U->Option (List Int)
 | []=>some []
 | .int i::us=>(dz us).map (i::·)
 |_::_=>none
noncomputable def lZ:List U->Option (List Bool)
 | []=>some []
 | .bl i::us=>(lZ us).map (i::·)
 |_::_=>none
theorem gH:∀{us:List U} {ns:List Int},dz us=some ns->us=ns.map .int
 | [],ns,h=>by cases h;rfl
 |u::us,ns,h=>by
  cases u<;>unfold dz at h<;>try cases h
  cases e:dz us with
  |none=>rw[e] at h;cases h
  |some ms=>rw[e] at h;cases h;rw[gH e];rfl
theorem zu:∀{us:List U} {ns:List Bool},lZ us=some ns->us=ns.map .bl
 | [],ns,h=>by cases h;rfl
 |u::us,ns,h=>by
  cases u<;>unfold lZ at h<;>try cases h
  cases e:lZ us with
  |none=>rw[e] at h;cases h
  |some ms=>rw[e] at h;cases h;rw[zu e];rfl
theorem E6 (ns:List Bool):lZ (ns.map .bl)=some ns:=by
 induction ns with
 |nil=>rfl
 |cons n ns ih=>rw[aag];unfold lZ;rw[ih];rfl
theorem aS.toI {H:Hp}{A:aaM->Prop}:∀{ns:List Int} {vs:List V},aS K H A (ns.map .int) vs->vs=ns.map V.int
 | [],vs,h=>by exact h
 |n::ns,vs,h=>by
  obtain⟨x,r,rfl,p,q⟩:=h;rw[p,aS.toI q];rfl
theorem aS.toB {H:Hp}{A:aaM->Prop}:∀{ns:List Bool} {vs:List V},aS K H A (ns.map .bl) vs->vs=ns.map V.bl
 | [],vs,h=>by exact h
 |n::ns,vs,h=>by
  obtain⟨x,r,rfl,p,q⟩:=h;rw[p,aS.toB q];rfl
theorem nq {H:Hp}{A:aaM->Prop}:∀(ns:List Int),aS K H A (ns.map .int) (ns.map V.int)
 | []=>aS.nil
 |n::ns=>aS.cons cU (nq ns)
noncomputable def Bv:List U->R U:=λus=>match us with
 | [.lst xs]=>match lZ xs with
  |some bs=>.ok (.bl (bs.all id))
  |none=>.stk
 |_=>.stk
theorem Mb:lW K (λxs H Q=>∃(p:aaM) (bs:List Bool),xs=[.ref p]/\fX K H p (bs.map V.bl)/\Q (.bl (bs.all id)) H) .S Bv:=λA H vs us z Q h mu e q=>by
 unfold Bv at e;split at e
 ·split at e
  ·rename_i bs hb;cases e;obtain⟨v,rfl,p⟩:=h.one;obtain⟨a,ys,rfl,h1,l1,r1⟩:=p;rw[zu hb] at r1;rw[r1.toB] at h1;exact⟨a,bs,rfl,fX.of h1,q _ H (aJ.refl _) (show Rp K H A _ _ from fA)⟩
  ·cases e
 ·cases e
noncomputable def E7 (x:Int):List Int->List Int
 | []=>[x]
 |y::r=>if y<x then y::E7 x r else x::y::r
noncomputable def zv (ns:List Int):List Int:=ns.foldr E7 []
theorem o9 (x:Int):∀l,(E7 x l).Perm (x::l)
 | []=>.refl _
 |y::r=>by
  unfold E7;split
  ·exact ((o9 x r).cons y).trans (.swap x y r)
  ·exact .refl _
theorem l5:∀ns:List Int,(zv ns).Perm ns
 | []=>.refl _
 |x::l=>(o9 x _).trans ((l5 l).cons x)
theorem C0 (x:Int):∀{l:List Int},l.Pairwise (·<=·)->(E7 x l).Pairwise (·<=·)
 | [],_=>aeE _ _
 |y::r,h=>by
  obtain⟨h1,h2⟩:=ace.mp h;unfold E7;split
  ·refine ace.mpr ⟨λz hz=>?_,C0 x h2⟩;rcases aaw.mp ((o9 x r).mem_iff.mp hz) with rfl|hz
   ·lia
   ·exact h1 z hz
  ·refine ace.mpr ⟨λz hz=>?_,h⟩;rcases aaw.mp hz with rfl|hz
   ·lia
   ·have:=h1 z hz;lia
theorem zw:∀ns:List Int,(zv ns).Pairwise (·<=·)
 | []=>List.Pairwise.nil
 |x::l=>C0 x (zw l)
noncomputable def Bw:List U->R U:=λus=>match us with
 | [.lst xs]=>match dz xs with
  |some ns=>if ns.length<64 then .ok (.lst ((zv ns).map .int)) else .stk
  |none=>.stk
 | [.tup xs]=>match dz xs with
  |some ns=>if ns.length<64 then .ok (.lst ((zv ns).map .int)) else .stk
  |none=>.stk
 |_=>.stk
theorem E8:lW K (λxs H Q=>∃(p:aaM) (ns:List Int),xs=[.ref p]/\(fX K H p (ns.map V.int)\/gr K H p (ns.map V.int))/\ns.length<64/\
  ∀(l:aaM) (yM:List Int),H l=none->yM.Perm ns->yM.Pairwise (·<=·)->Q (.ref l) (cT H l (.lst (yM.map V.int)))) .O Bw:=λA H vs us z Q h mu e q=>by
 have fin:∀(ns:List Int),ns.length<64->z=.lst ((zv ns).map .int)->∀(l:aaM) (yM:List Int),H l=none->yM.Perm ns->yM.Pairwise _->Q (.ref l) (cT H l (.lst (yM.map _))):=λns hl hz l yM hn hp hw=>by
  have e:=PySem.W.ksm_same (hp.trans (l5 ns).symm) hw (zw ns);subst e hz;refine q _ _ (cF hn _) ⟨l,rfl,hn,cM mu (nq _) hn ?_⟩;have:aah=16777216:=rfl;rw[aab,(l5 ns).length_eq];lia
 unfold Bw at e;split at e
 ·split at e
  ·rename_i ns hb;split at e
   ·rename_i hl;cases e;obtain⟨v,rfl,p⟩:=h.one;obtain⟨a,ys,rfl,h1,l1,r1⟩:=p;rw[gH hb] at r1;rw[r1.toI] at h1;exact⟨a,ns,rfl,.inl (fX.of h1),hl,fin ns hl rfl⟩
   ·cases e
  ·cases e
 ·split at e
  ·rename_i ns hb;split at e
   ·rename_i hl;cases e;obtain⟨v,rfl,p⟩:=h.one;obtain⟨a,ys,rfl,h1,l1,r1⟩:=p;rw[gH hb] at r1;rw[r1.toI] at h1;exact⟨a,ns,rfl,.inr (gr.of h1),hl,fin ns hl rfl⟩
   ·cases e
  ·cases e
 ·cases e
variable {e:aca}{p1:Pos}{b1:Bool}{m1:Md}{g1:Ev->R (U×Ev)}
noncomputable def zx (i j:Int):Bool:=decide (-1000000<=i)&&decide (i<=1000000)&&decide (-1000000<=j)&&decide (j<=1000000)
noncomputable def zy (g:Ev->R (List U×Ev)):Ev->R (U×Ev):=λρ=>(g ρ).bind λx=>match x.1 with
 | [.int j]=>if zx 0 j=true then .ok (.lst (aP 0 (j-0).toNat),x.2) else .stk
 |_=>.stk
noncomputable def vY (g:Ev->R (List U×Ev)):Ev->R (U×Ev):=λρ=>(g ρ).bind λx=>match x.1 with
 | [.int j]=>if zx 0 j=true then .ok (.tup (aP 0 (j-0).toNat),x.2) else .stk
 |_=>.stk
def vZ (lo:Int)(n:Nat):aS K H A (aP lo n) ((aa7 n).map λi=>V.int (lo+(i:Nat))):=by
 unfold aP;have e1:(aa7 n).map (λi=>U.int (lo+(i:Nat)))=((aa7 n).map λi=>lo+(i:Nat)).map U.int:=by rw[aaq];rfl
 have e2:(aa7 n).map (λi=>V.int (lo+(i:Nat)))=((aa7 n).map λi=>lo+(i:Nat)).map V.int:=by rw[aaq];rfl
 rw[e1,e2];exact nq _
def bq (lo:Int)(n:Nat):(aP lo n).length=n:=by unfold aP;rw[aab,abd]
variable {ga:Ev->R (List U×Ev)}{a:aca}{p3 p4:Pos}
theorem xE (hc:X.calm=true)(ha:DA X G [a] b1 false ga)(zl:X.mg "list"=none)(zr:X.mg "range"=none)(hg:Gl X "list":=by rfl)(VN:Gl X "range":=by rfl)
  (hs:aaC [.Call (.Name "range" p3) [a] [] p4] X.env=(false,adB (.Call (.Name "range" p3) [a] [] p4) X.env)::aaC [] X.env:=by rfl) (qN:aaC [a] X.env=(false,adB a X.env)::aaC [] X.env:=by rfl)
  (pY:(acq pos (aaC [] X.env)).any (·.1)=false:=by rfl) (u7:(acq p4 (aaC [] X.env)).any (·.1)=false:=by rfl):DE X G (.Call (.Name "list" p1) [.Call (.Name "range" p3) [a] [] p4] [] pos) b1 .O (zy ga):=⟨(gR (vi hc) hg zl LK (fQ (gR qg VN zr zc ha.un (by decide) (by decide) qN u7) jr hs) (by decide) (by decide) hs pY).to λσ H Q h=>by
 obtain⟨Z,A,ρ,q,f⟩:=h;obtain⟨⟨us,ρ1⟩,e1,f⟩:=f.bind;refine⟨Z,A,ρ,q,?_⟩;rw[e1];intro vs H1 q1 x1 s1 vm;dsimp only at f;split at f
 ·rename_i j;split at f
  ·rename_i hj;have r:=vm.rps;obtain⟨v,vr,rfl,r1,r2⟩:=r;subst r2;subst r1;unfold zx at hj;simp only[aau,decide_eq_true_eq] at hj;refine⟨j,rfl,λp hp=>⟨p,0,j,rfl,bj,by lia,by lia,λl hl=>?_⟩⟩;have sp:=cF hp (.rng 0 j);have sl:=cF hl (.lst ((aa7 (j-0).toNat).map λi=>V.int (0+(i:Nat))));exact f _ _ ((q1.same sp).same sl) (x1.trans (eQ.same (sp.trans sl))) (oV s1 (sp.trans sl)) (CP.e (q1.same sp) sl ⟨l,rfl,hl,cM (q1.same sp).mu (vZ 0 _) hl (by rw[bq];have:aah=16777216:=rfl;lia)⟩)
  ·exact f.elim
 ·exact f.elim⟩
theorem rL (hc:X.calm=true)(ha:DA X G [a] b1 false ga)(zl:X.mg "tuple"=none)(zr:X.mg "range"=none)(hg:Gl X "tuple":=by rfl)(VN:Gl X "range":=by rfl)
  (hs:aaC [.Call (.Name "range" p3) [a] [] p4] X.env=(false,adB (.Call (.Name "range" p3) [a] [] p4) X.env)::aaC [] X.env:=by rfl) (qN:aaC [a] X.env=(false,adB a X.env)::aaC [] X.env:=by rfl)
  (pY:(acq pos (aaC [] X.env)).any (·.1)=false:=by rfl) (u7:(acq p4 (aaC [] X.env)).any (·.1)=false:=by rfl):DE X G (.Call (.Name "tuple" p1) [.Call (.Name "range" p3) [a] [] p4] [] pos) b1 .S (vY ga):=⟨(gR (sI hc) hg zl cf (fQ (gR qg VN zr zc ha.un (by decide) (by decide) qN u7) jr hs) (by decide) (by decide) hs pY).to λσ H Q h=>by
 obtain⟨Z,A,ρ,q,f⟩:=h;obtain⟨⟨us,ρ1⟩,e1,f⟩:=f.bind;refine⟨Z,A,ρ,q,?_⟩;rw[e1];intro vs H1 q1 x1 s1 vm;dsimp only at f;split at f
 ·rename_i j;split at f
  ·rename_i hj;have r:=vm.rps;obtain⟨v,vr,rfl,r1,r2⟩:=r;subst r2;subst r1;unfold zx at hj;simp only[aau,decide_eq_true_eq] at hj;refine⟨j,rfl,λp hp=>⟨p,0,j,rfl,bj,by lia,by lia,λl hl=>?_⟩⟩;have sp:=cF hp (.rng 0 j);have sl:=cF hl (.tup ((aa7 (j-0).toNat).map λi=>V.int (0+(i:Nat))));exact f _ _ ((q1.same sp).same sl) (x1.trans (eQ.same (sp.trans sl))) (oV s1 (sp.trans sl)) (vk.ofS (oY (vZ 0 _) hl (by rw[bq];have:aah=16777216:=rfl;lia)))
  ·exact f.elim
 ·exact f.elim⟩
noncomputable def rM:U->List U->R (U×U):=λu us=>match u,us with
 | .lst xs,[y]=>if xs.length<aah then .ok (.non,.lst (xs++[y])) else .stk
 |_,_=>.stk
def jC {a:aaM}(o:HO):∀b u,b≠a->H b=some u->cT H a o b=some u:=λb u nb z=>by rw[aI nb];exact z
def rN {a:aaM}(mu:∀a,A a->Mu (H a))(ha:A a)(r:aS K H A us xs)(l:us.length<=aah):lE K (cT H a (.lst xs)) A (.lst us) a:=
 ⟨xs,bj,l,r.re mu (λb o nb z=>jC _ b o (λy=>nb (y▸ha)) z) λb z=>.inl z⟩
theorem tj:Hj K "list" CL rM:=λA H a u vs us z w Q t ha r mu e q=>by
 unfold rM at e;split at e
 ·split at e
  ·rename_i hl;cases e;obtain⟨ys,h1,l1,r1⟩:=t;obtain⟨v,vr,rfl,p,r2⟩:=r;subst r2;exact⟨a,ys,v,rfl,rfl,h1,by rw[←r1.length];exact hl,q _ _ (jC _) (rN mu ha (r1.append (aS.cons p aS.nil)) (by rw[aaj];exact hl)) oX⟩
  ·cases e
 ·cases e
def zz:V->List V->Hp->VK->Prop:=λx vs H Q=>∃l b xs zs,x=.ref l/\vs=[.ref b]/\H l=some (.lst xs)/\H b=some (.lst zs)/\xs.length+zs.length<=aah/\Q .non (cT H l (.lst (xs++zs)))
theorem Bx:K7 X "list.extend" zz:=by
 intro pins s σ H x vs v us Q I rx rv h;obtain⟨l,b,xs,zs,rfl,rfl,hH,hB,hz,q⟩:=h;cases rx;obtain⟨u,rfl,ru⟩:=rv.one;cases ru;obtain⟨z,aD,n,r,hl,e⟩:=I.lstM hH;obtain⟨z2,its2,n2,r2,Gp,e2⟩:=I.lstM hB;have hsz:aD.toArray.size+its2.toArray.size<=aah:=by rw[aax,aax];lia
 have KY:¬(!aD.toArray.isEmpty&&aeo (aD.toArray.size+its2.toArray.size))=true:=by
  rw[su hsz,Bool.and_false];exact aaz
 refine aeV F.slot_list_extend ⟨_,e,rfl⟩ F.entry_list_extend (F.args_list_extend_2 _ _)
  (PySem.AutoSeq1.list_extend_list_list_0 l _ n b _ n2 KY (by lia) (by lia)) ⟨e,e2,?_⟩
 refine⟨.non,_,I.lset hH e (by simp) (r.append r2) ?_,rfl,q⟩;rw[aaj];lia
def NY:V->List V->Hp->VK->Prop:=λx vs H Q=>zz x vs H Q\/zd x vs H Q
def rO:K7 X "list.extend" NY:=Bx.or Bo
noncomputable def fR:U->List U->R (U×U):=λu us=>match u,us with
 | .lst xs,[.lst ys]=>if xs.length+ys.length<=aah then .ok (.non,.lst (xs++ys)) else .stk
 | .lst xs,[.tup ys]=>if xs.length+ys.length<=aah then .ok (.non,.lst (xs++ys)) else .stk
 |_,_=>.stk
theorem jD:Hj K "list" NY fR:=λA H a u vs us z w Q t ha r mu e q=>by
 unfold fR at e;split at e
 ·split at e
  ·rename_i hl;cases e;obtain⟨zs,h1,l1,r1⟩:=t;obtain⟨v,vr,rfl,p,r2⟩:=r;subst r2;obtain⟨b,ws,rfl,nb,h2,l2,r3⟩:=p;exact .inl ⟨a,b,zs,ws,rfl,rfl,h1,h2,by rw[←r1.length,←r3.length];exact hl,q _ _ (jC _) (rN mu ha (r1.append r3) (by rw[aaj];exact hl)) oX⟩
  ·cases e
 ·split at e
  ·rename_i hl;cases e;obtain⟨zs,h1,l1,r1⟩:=t;obtain⟨v,vr,rfl,p,r2⟩:=r;subst r2;obtain⟨b,ws,rfl,h2,l2,r3⟩:=p;exact .inr ⟨a,b,zs,ws,rfl,rfl,h1,h2,by rw[←r1.length,←r3.length];exact hl,q _ _ (jC _) (rN mu ha (r1.append r3) (by rw[aaj];exact hl)) oX⟩
  ·cases e
 ·cases e
noncomputable def o_:U->List U->R (U×U):=λu us=>match u,us with
 | .lst xs,[.int i]=>if -9223372036854775808<=i/\i<9223372036854775808 then (match afY i xs.length with
  |some k=>match xs[k]? with
   |some y=>.ok (y,.lst (xs.eraseIdx k))
   |none=>.stk
  |none=>.stk) else .stk
 |_,_=>.stk
theorem aS.erase {H:Hp}{A:aaM->Prop}:∀{us:List U} {vs:List V} (n:Nat),aS K H A us vs->aS K H A (us.eraseIdx n) (vs.eraseIdx n)
 | [],vs,n,h=>by subst h;exact aS.nil
 |u::us,vs,0,h=>by
  obtain⟨x,r,rfl,p,q⟩:=h;exact q
 |u::us,vs,n+1,h=>by
  obtain⟨x,r,rfl,p,q⟩:=h;exact aS.cons p (aS.erase n q)
theorem E9:Hj K "list" GO o_:=λA H a u vs us z w Q t ha r mu e q=>by
 unfold o_ at e;split at e
 ·rename_i xs i;split at e
  ·rename_i hi;split at e
   ·rename_i k hk;split at e
    ·rename_i y hy;cases e;obtain⟨zs,h1,l1,r1⟩:=t;obtain⟨v,vr,rfl,p,r2⟩:=r;subst r2;subst p;obtain⟨v,h2,h3⟩:=r1.get hy;exact⟨a,zs,i,k,v,rfl,rfl,h1,by lia,by lia,by rw[←r1.length];exact hk,h2,q _ _ (jC _) (rN mu ha (r1.erase k) (aaR (List.length_eraseIdx_le _ _) l1)) (h3.re mu (λb o nb z=>jC _ b o (λy=>nb (y▸ha)) z) λb z=>.inl z)⟩
    ·cases e
   ·cases e
  ·cases e
 ·cases e
end
end L2
namespace L2
section
variable {m:Md}
def By:fz K (EK λi j=>.bl (decide (i<j))) .S Ug:=Hr
def kj:fz K (EK λi j=>.bl (decide (j<i))) .S NU:=Hr
def QQ:fz K (EK λi j=>.bl (decide (j<=i))) .S Xc:=Hr
theorem Mc {VO:List aeO}:xt X G m VO (λ_=>.stk):=⟨λpins s σ H D I h=>by
 obtain⟨Z,A,ρ,q,f⟩:=h;exact f.elim⟩
noncomputable def QR:Ev->R (U×Ev):=λρ=>.ok (.dct [] [],ρ)
theorem jb:DE X G (.Dict [] [] pos) false .O QR:=⟨GV.to λσ H Q h=>by
 obtain⟨Z,A,ρ,q,f⟩:=h;intro a na;have sn:=cF na (.dK []);exact f _ _ (q.same sn) (eQ.same sn) (λ_=>⟨rfl,sn⟩) (CP.e q sn ⟨a,rfl,na,[],.inl ⟨[],bj,rfl,rfl⟩,acM _,aS.nil⟩)⟩
end
end L2
namespace L2
def Gk (H:Hp)(a:aaM)(y:V)(o:Option V):Prop:=Bk H a y o\/∃es k b,fF H a es/\y=.ref b/\qU H k b/\o=jw es k
def V8 (H:Hp)(a:aaM)(y v:V)(C:Hp->Prop):Prop:=(∃H',T2 H a y v H'/\C H')\/∃es k b,fF H a es/\y=.ref b/\qU H k b/\es.length<=aah/\∀ep,C (cT H a (DN a ep (iC es k b v)))
def Me (H:Hp)(a:aaM):Prop:=Yz H a\/∃es,fF H a es
section
variable {d:V}{u r:aak}{o:Option V}{A:aba}
theorem Hu (I:aE X pins σ H s)(g:Gk H a y o):s.TypeIs (.ref a) "dict":=by
 rcases g with g|⟨es,k,b,g,_⟩
 ·exact yZ I g
 ·exact g.typeIs I
theorem NZ (I:aE X pins σ H s)(d:Me H a):s.TypeIs (.ref a) "dict"/\(∀b,Value.ref a=.ref b->∃ob,s.heap.get? b=some ob/\ob.dict=none):=by
 rcases d with d|⟨es,d⟩
 ·obtain⟨x,y,_⟩:=Qr I d;exact⟨x,y⟩
 ·exact⟨d.typeIs I,d.noDict I⟩
theorem E_ (hu:A.units+64<abI)(I:aE X pins σ H s)(g:Gk H a y (some v))(ry:aL y u)(h:∀w' s',aE X pins σ H s'->aL v w'->Q w' s') :
  aaW (aa1 X.prog X.w) A (aft (.ref a) u) Q E s:=by
 rcases g with g|⟨es,k,b,g,rfl,kb,e⟩
 ·exact ES (by lia) I g ry h
 ·cases ry;exact EY hu I g kb e.symm h
theorem Xe (hu:A.units+64<abI)(I:aE X pins σ H s)(g:Gk H a y o)(ry:aL y u)(h:∀s',aE X pins σ H s'->Q (.bool o.isSome) s') :
  aaW (aa1 X.prog X.w) A (abO .In u (.ref a)) Q E s:=by
 rcases g with g|⟨es,k,b,g,rfl,kb,e⟩
 ·exact WX (by lia) I g ry h
 ·cases ry;subst e;exact W2 hu I g kb h
theorem Mf (hu:A.units+64<abI)(I:aE X pins σ H s)(g:Gk H a y o)(ry:aL y u)(h:∀s',aE X pins σ H s'->Q (.bool (!o.isSome)) s') :
  aaW (aa1 X.prog X.w) A (abO .NotIn u (.ref a)) Q E s:=by
 rcases g with g|⟨es,k,b,g,rfl,kb,e⟩
 ·exact LF (by lia) I g ry h
 ·cases ry;subst e;exact LO hu I g kb h
theorem QS (hu:A.units+64<abI)(I:aE X pins σ H s)(g:Gk H a y o)(ry:aL y u)(h:∀w' s',aE X pins σ H s'->aL (o.getD .non) w'->Q w' s') :
  aaW (aa1 X.prog X.w) A (call (.builtin "dict.get") [.ref a,u]) Q E s:=by
 rcases g with g|⟨es,k,b,g,rfl,kb,e⟩
 ·exact Qs (by lia) I g ry h
 ·cases ry;subst e;exact QC hu I g kb h
theorem QT (hu:A.units+64<abI)(I:aE X pins σ H s)(g:Gk H a y o)(ry:aL y u)(rd:aL d r)(h:∀w' s',aE X pins σ H s'->aL (o.getD d) w'->Q w' s') :
  aaW (aa1 X.prog X.w) A (call (.builtin "dict.get") [.ref a,u,r]) Q E s:=by
 rcases g with g|⟨es,k,b,g,rfl,kb,e⟩
 ·exact Qt (by lia) I g ry rd h
 ·cases ry;subst e;exact QB hu I g kb rd h
theorem Fb {C:Hp->Prop}{Q:Unit->aaD->Prop}(hu:A.units+64<abI)(I:aE X pins σ H s)(g:V8 H a y v C)(ry:aL y u)(rv:aL v r)(h:∀H' s',C H'->aE X pins σ H' s'->Q () s') :
  aaW (aa1 X.prog X.w) A (setItem (.ref a) u r) Q E s:=by
 rcases g with⟨H',g,c⟩|⟨es,k,b,g,rfl,kb,hz,e⟩
 ·exact ET (by lia) I g ry rv λs'=>h H' s' c
 ·cases ry;exact EZ hu I g kb hz rv λep s'=>h _ s' (e ep)
end
def Uj (td ty:TE):TE:=λσ H Q=>td σ H λx H1=>ty σ H1 λy H2=>∃a v,x=.ref a/\Gk H2 a y (some v)/\Q v H2
def QU (f:Bool->Bool):R2:=λy x H Q=>∃a o,x=.ref a/\Gk H a y o/\Q (.bl (f o.isSome)) H
def QV (td ty:TE):TE:=λσ H Q=>td σ H λx H1=>∃a,x=.ref a/\Me H1 a/\ty σ H1 λy H2=>∃o,Gk H2 a y o/\Q (o.getD .non) H2
def QW (td ty tx:TE):TE:=λσ H Q=>td σ H λx H1=>∃a,x=.ref a/\Me H1 a/\ty σ H1 λy H2=>tx σ H2 λz H3=>∃o,Gk H3 a y o/\Q (o.getD z) H3
def Uk (td ty tv:TE):TS:=λD σ H=>tv σ H λv H1=>td σ H1 λx H2=>ty σ H2 λy H3=>∃a,x=.ref a/\V8 H3 a y v λH4=>D.nx σ H4
section
variable {o i e f value:aca}{oK bW cpos:Pos}{td ty tv tx:TE}
theorem Mg (hu:X.A.units+64<abI)(ho:PE X o td)(hi:PE X i ty)(hs:Qp i):PE X (.Subscript o i pos) (Uj td ty):=by
 intro pins s σ H Q I h;refine LG PySem.F.slot_dict_getitem.lookup hs (dE (ho pins s σ H _ I h) λu s1 ⟨x,H1,I1,rx,q1⟩=>dE (hi pins s1 σ H1 _ I1 q1) λiv s2 ⟨y,H2,I2,ry,a,v,ex,g,q2⟩=>?_);subst ex;obtain rfl:u=Value.ref a:=rx;exact⟨Hu I2 g,E_ hu I2 g ry λw' s3 I3 A7=>⟨v,H2,I3,A7,q2⟩⟩
theorem QX (hu:X.A.units+64<abI):j6 X (abO .In) (QU id):=by
 intro pins s σ H y x v u Q I ry rx h;obtain⟨a,o,rfl,g,q⟩:=h;cases rx;exact Xe hu I g ry λs' I'=>⟨.bl o.isSome,H,I',rfl,q⟩
theorem v5 (hu:X.A.units+64<abI):j6 X (abO .NotIn) (QU not):=by
 intro pins s σ H y x v u Q I ry rx h;obtain⟨a,o,rfl,g,q⟩:=h;cases rx;exact Mf hu I g ry λs' I'=>⟨.bl _,H,I',rfl,q⟩
theorem Hv (hu:X.A.units+64<abI)(ho:PE X o td)(he:PE X e ty)(m:M1 X o "get" bW e cpos):PE X (.Call (.Attribute o "get" bW) [e] [] cpos) (QV td ty):=by
 intro pins s σ H Q I h;refine adR m.base m.few m.line acJ abR PySem.F.type_dict_get (dE (ho pins s σ H _ I h) λu s1 ⟨x,H1,I1,rx,a,ex,d,q1⟩=>?_);subst ex;obtain rfl:u=Value.ref a:=rx;obtain⟨t1,t2⟩:=NZ I1 d;refine⟨t1,t2,?_⟩;rw[m.trees];refine ach rfl (ad1 (aev (dE (he pins s1 σ H1 _ I1 q1) λiv s2 ⟨y,H2,I2,ry,ov,g,q2⟩=>afW ?_)));exact QS hu I2 g ry λw' s3 I3 A7=>⟨_,H2,I3,A7,q2⟩
theorem Hw (hu:X.A.units+64<abI)(ho:PE X o td)(he:PE X e ty)(hf:PE X f tx)(m:M2 X o "get" bW e f cpos):PE X (.Call (.Attribute o "get" bW) [e,f] [] cpos) (QW td ty tx):=by
 intro pins s σ H Q I h;refine adR m.base m.few m.line acJ abR PySem.F.type_dict_get (dE (ho pins s σ H _ I h) λu s1 ⟨x,H1,I1,rx,a,ex,d,q1⟩=>?_);subst ex;obtain rfl:u=Value.ref a:=rx;obtain⟨t1,t2⟩:=NZ I1 d;refine⟨t1,t2,?_⟩;rw[m.trees];refine ach rfl (ad1 (aev (dE (he pins s1 σ H1 _ I1 q1) λiv s2 ⟨y,H2,I2,ry,q2⟩=>
  aev (dE (hf pins s2 σ H2 _ I2 q2) λfv s3 ⟨z,H3,I3,rz,ov,g,q3⟩=>afW ?_))))
 exact QT hu I3 g ry rz λw' s4 I4 A7=>⟨_,H3,I4,A7,q3⟩
theorem Mh (hu:X.A.units+64<abI)(ho:PE X o td)(hi:PE X i ty)(hv:PE X value tv)(hs:ado value (some (.Subscript o i oK)) pos.line X.env=pure false) :
  PS X (.Assign [.Subscript o i oK] value pos) (Uk td ty tv):=by
 intro pins s σ H D I h;refine wpAny_Assign_Subscript (dE (hv pins s σ H _ I h) λr s1 ⟨v,H1,I1,rv,q1⟩=>dE (ho pins s1 σ H1 _ I1 q1) λu s2 ⟨x,H2,I2,rx,q2⟩=>dE (hi pins s2 σ H2 _ I2 q2) λiv s3 ⟨y,H3,I3,ry,a,ex,g⟩=>?_) hs;subst ex;obtain rfl:u=Value.ref a:=rx;exact Fb hu I3 g ry rv λH4 s4 q3 I4=>⟨σ,H4,I4,q3⟩
end
noncomputable def Hx:U->Bool
 | .int _=>true
 | .str _=>true
 |_=>false
mutual
noncomputable def vp:U->Bool
 | .int _=>true
 | .tup us=>zA us
 |_=>false
noncomputable def zA:List U->Bool
 | []=>true
 |u::us=>vp u&&zA us
end
noncomputable def Bz:U->Bool
 | .tup us=>zA us&&decide (zg us<=6)
 |_=>false
noncomputable def Hy:U->Bool
 | .tup _=>true
 |_=>false
noncomputable def iS (ks:List U)(k:U):Bool:=(Hx k&&ks.all Hx)||(Bz k&&ks.all Hy)
noncomputable def fq:List U->List U->U->Option U
 |k'::ks,u::us,k=>if k'=k then some u else fq ks us k
 |_,_,_=>none
noncomputable def f9 (ks us:List U)(k v:U):List U:=if k∈ks then ab7 (λk' u=>if k'=k then v else u) ks us else us++[v]
noncomputable def g7 (ks:List U)(k:U):List U:=if k∈ks then ks else ks++[k]
mutual
theorem Ul:∀{u:U} {v:V},vp u=true->Rp K H A u v->KH H u v
 | .int i,v,_,h=>by unfold Rp at h;unfold KH;exact h
 | .tup us,v,k,h=>by
  unfold vp at k;unfold Rp at h;unfold KH;obtain⟨a,xs,r,q,l,z⟩:=h;exact⟨a,xs,r,q,l,BA k z⟩
 | .non,v,k,h=>by unfold vp at k;cases k
 | .bl _,v,k,h=>by unfold vp at k;cases k
 | .str _,v,k,h=>by unfold vp at k;cases k
 | .lst _,v,k,h=>by unfold vp at k;cases k
 | .dct _ _,v,k,h=>by unfold vp at k;cases k
 | .scr _,v,k,h=>by unfold vp at k;cases k
 | .obj _ _,v,k,h=>by unfold vp at k;cases k
theorem BA:∀{us:List U} {vs:List V},zA us=true->aS K H A us vs->sL H us vs
 | [],vs,_,h=>by unfold aS at h;unfold sL;exact h
 |u::us,vs,k,h=>by
  unfold zA at k;rw[aau] at k;unfold aS at h;unfold sL;obtain⟨x,r,q,p,z⟩:=h;exact⟨x,r,q,Ul k.1 p,BA k.2 z⟩
end
theorem v7 (k:Bz (.tup us)=true)(h:Rp K H A (.tup us) v):∃b,v=.ref b/\qU H us b:=by
 unfold Bz at k;rw[aau] at k;obtain⟨a,xs,r,q,l,z⟩:=h;exact⟨a,r,of_decide_eq_true k.2,xs,q,l,BA k.1 z⟩
theorem N0 (k:Hx u=true)(h:Rp K H A u v):∃q:Key,u=kU q/\v=kV q:=by
 cases u<;>first|(cases k)|skip
 ·exact⟨.inl _,rfl,h⟩
 ·exact⟨.inr _,rfl,h⟩
theorem BB {a b:Key}(h:kU a=kU b):a=b:=by
 cases a<;>cases b<;>unfold kU at h<;>first|(cases h;rfl)|cases h
theorem BC {k:Key}:∀{aX:List (Key×V)} {us:List U},aS K H A us (aX.map (·.2))->(∀u,fq (aX.map λp=>kU p.1) us (kU k)=some u->∃v,qS aX k=some v/\Rp K H A u v)/\(fq (aX.map λp=>kU p.1) us (kU k)=none->qS aX k=none)
 | [],us,r=>⟨(λu h=>by cases h),λ_=>rfl⟩
 |p::aX,us,r=>by
  cases us with
  |nil=>cases r
  |cons u us=>
   obtain⟨x,rr,e,h1,h2⟩:=r;cases e;rw[aag];unfold fq;by_cases c:p.1=k
   ·rw[h9 (by rw[c]),mT c];exact⟨λw h=>by cases h;exact⟨_,rfl,h1⟩,λh=>by cases h⟩
   ·rw[hZ (λz=>c (BB z)),mU c];exact BC h2
theorem xF {k:List U}:∀{es:List (List U×aaM×V)} {us:List U},aS K H A us (es.map (·.2.2))->(∀u,fq (es.map λp=>.tup p.1) us (.tup k)=some u->∃v,jw es k=some v/\Rp K H A u v)/\(fq (es.map λp=>.tup p.1) us (.tup k)=none->jw es k=none)
 | [],us,r=>⟨(λu h=>by cases h),λ_=>rfl⟩
 |p::es,us,r=>by
  cases us with
  |nil=>cases r
  |cons u us=>
   obtain⟨x,rr,e,h1,h2⟩:=r;cases e;rw[aag];unfold fq jw;rw[aeD];by_cases c:p.1=k
   ·rw[h9 (by rw[c]),hJ c];exact⟨λw h=>by cases h;exact⟨_,rfl,h1⟩,λh=>by cases h⟩
   ·rw[hZ (λz=>c (m4.mp z)),hV c];exact xF h2
theorem xG {k:U}(d:xm H a ks xs)(r:aS K H A us xs)(f:iS ks k=true)(hk:Rp K H A k y) :
  ∃o,Gk H a y o/\(∀u,fq ks us k=some u->∃v,o=some v/\Rp K H A u v)/\(fq ks us k=none->o=none):=by
 unfold iS at f;rw[acO,aau,aau] at f;rcases d with⟨aX,h,e1,e2⟩|⟨es,n,h,e1,e2⟩
 ·rcases f with⟨f1,f2⟩|⟨f1,f2⟩
  ·obtain⟨q,rfl,rfl⟩:=N0 f1 hk;subst e1 e2;exact⟨_,.inl (.inl ⟨aX,q,.inl h,rfl,rfl⟩),(BC r).1,(BC r).2⟩
  ·cases aX with
   |nil=>
    subst e1 e2;cases k<;>first|(cases f1)|skip
    rename_i kk;obtain⟨b,rfl,kt⟩:=v7 f1 hk;exact⟨none,.inr ⟨[],kk,b,⟨.inr ⟨rfl,h⟩,acv,(λe he=>by cases he)⟩,rfl,kt,rfl⟩,(λu z=>by cases z),λ_=>rfl⟩
   |cons p aX=>
    subst e1;rw[aag,abT,aau] at f2;obtain⟨p1,p2⟩:=p;cases p1<;>cases f2.1
 ·rcases f with⟨f1,f2⟩|⟨f1,f2⟩
  ·exfalso;subst e1;cases es with
   |nil=>exact n rfl
   |cons p es=>rw[aag,abT,aau] at f2;cases f2.1
  ·subst e1 e2;cases k<;>first|(cases f1)|skip
   rename_i kk;obtain⟨b,rfl,kt⟩:=v7 f1 hk;exact⟨_,.inr ⟨es,kk,b,h,rfl,kt,rfl⟩,(xF r).1,(xF r).2⟩
end L2
namespace L2
def aS.snoc (h:aS K H A us vs)(p:Rp K H A u v):aS K H A (us++[u]) (vs++[v]):=h.append (aS.cons p aS.nil)
def Um {k:Key}(aX:List (Key×V)):(aX.any λkv=>decide (kv.1=k))=decide (kU k∈aX.map λp=>kU p.1):=by
 rw[abu,acV,decide_eq_true_eq,aas];constructor
 ·rintro⟨p,h1,h2⟩;exact⟨p,h1,by rw[of_decide_eq_true h2]⟩
 ·rintro⟨p,h1,h2⟩;exact⟨p,h1,hJ (BB h2)⟩
def C1 {k:Key}(aX:List (Key×V))(v:V):oS aX k v=if (aX.any λkv=>decide (kv.1=k))=true then aX.map (λkv=>if kv.1=k then (kv.1,v) else kv) else aX++[(k,v)]:=by
 rfl
theorem Fc {k:Key}(aX:List (Key×V))(v:V):(oS aX k v).map (λp=>kU p.1)=g7 (aX.map λp=>kU p.1) (kU k):=by
 rw[C1,Um];unfold g7;by_cases c:kU k∈aX.map λp=>kU p.1
 ·rw[hJ c,h9 rfl,h9 c,aaq];refine aaB λp _=>?_;show kU (if p.1=k then (p.1,v) else p).1=kU p.1;split<;>rfl
 ·rw[hV c,hZ aaz,hZ c,aaG];rfl
theorem Fd {k:Key}(p:Rp K H A u v){aX:List (Key×V)}(r:aS K H A us (aX.map (·.2))):aS K H A (f9 (aX.map λp=>kU p.1) us (kU k) u) ((oS aX k v).map (·.2)):=by
 rw[C1,Um];unfold f9;by_cases c:kU k∈aX.map λp=>kU p.1
 ·rw[hJ c,h9 c];clear c
  induction aX generalizing us with
  |nil=>
   cases us with
   |nil=>exact aS.nil
   |cons=>obtain⟨_,_,e,_⟩:=r;cases e
  |cons q aX ih=>
   cases us with
   |nil=>cases r
   |cons w us=>
    obtain⟨x,rr,e,h1,h2⟩:=r;cases e;rw[aag,aag,acQ];refine aS.cons ?_ (ih h2);by_cases c:q.1=k
    ·rw[h9 (by rw[c]),h9 c];exact p
    ·rw[hZ (λz=>c (BB z)),hZ c];exact h1
 ·rw[hV c,hZ aaz,hZ c,aaG];exact r.snoc p
theorem nu {k:List U}:∀(es:List (List U×aaM×V)),(jw es k).isSome=decide (U.tup k∈es.map λp=>U.tup p.1)
 | []=>by simp[jw]
 |e::es=>by
  have ih:=nu (k:=k) es;unfold jw at ih ⊢;rw[aeD,aag];by_cases c:e.1=k
  ·rw[hJ c,hJ (by rw[c];exact aal)];rfl
  ·rw[hV c];rw[ih,abu,decide_eq_true_eq,decide_eq_true_eq,aaw];constructor
   ·exact .inr
   ·rintro (z|z)
    ·exact absurd (m4.mp z).symm c
    ·exact z
theorem v9 {k:List U}(es:List (List U×aaM×V))(v:V):(iC es k b v).map (λp=>U.tup p.1)=g7 (es.map λp=>.tup p.1) (.tup k):=by
 unfold iC g7;rw[nu];by_cases c:U.tup k∈es.map λp=>U.tup p.1
 ·rw[hJ c,h9 rfl,h9 c,aaq];refine aaB λp _=>?_;show U.tup (if p.1=k then (p.1,p.2.1,v) else p).1=.tup p.1;split<;>rfl
 ·rw[hV c,hZ aaz,hZ c,aaG];rfl
theorem v_ {k:List U}(p:Rp K H A u v)(r:aS K H A us (es.map (·.2.2))):aS K H A (f9 (es.map λp=>.tup p.1) us (.tup k) u) ((iC es k b v).map (·.2.2)):=by
 unfold iC f9;rw[nu];by_cases c:U.tup k∈es.map λp=>U.tup p.1
 ·rw[hJ c,h9 c];clear c
  induction es generalizing us with
  |nil=>
   cases us with
   |nil=>exact aS.nil
   |cons=>obtain⟨_,_,e,_⟩:=r;cases e
  |cons q es ih=>
   cases us with
   |nil=>cases r
   |cons w us=>
    obtain⟨x,rr,e,h1,h2⟩:=r;cases e;rw[aag,aag,acQ];refine aS.cons ?_ (ih h2);by_cases c:q.1=k
    ·rw[h9 (by rw[c]),h9 c];exact p
    ·rw[hZ (λz=>c (m4.mp z)),hZ c];exact h1
 ·rw[hV c,hZ aaz,hZ c,aaG];exact r.snoc p
theorem C2 {k:List U}(h:(es.map (·.1)).Nodup):((iC es k b v).map (·.1)).Nodup:=by
 unfold iC;split
 ·rw[aaq];have:es.map ((λx=>x.1)∘λe=>if e.1=k then (e.1,e.2.1,v) else e)=es.map (·.1):=aaB λe _=>by
   show (if e.1=k then (e.1,e.2.1,v) else e).1=e.1;split<;>rfl
  rw[this];exact h
 ·rename_i c;rw[aaG,aag];refine adS.mpr ⟨h,by simp,?_⟩;intro x hx y hy e;rw[aaK.mp hy] at e;subst e;rw[nu] at c;apply c;rw[decide_eq_true_eq];obtain⟨e,he,rfl⟩:=aas.mp hx;exact aas.mpr ⟨e,he,rfl⟩
theorem zB {k:List U}(h:∀e∈es,qU H e.1 e.2.1)(kb:qU H k b):∀e∈iC es k b v,qU H e.1 e.2.1:=by
 unfold iC;split
 ·intro e he;obtain⟨e',h1,rfl⟩:=aas.mp he;split
  ·exact h e' h1
  ·exact h e' h1
 ·intro e he;rcases aaQ.mp he with z|z
  ·exact h e z
  ·rw[aaK.mp z];exact kb
theorem C3 {k:List U}:iC es k b v≠[]:=by
 unfold iC;split
 ·rename_i c;intro z;cases es with
  |nil=>cases c
  |cons e es=>cases z
 ·simp
theorem Hz {k v:U}(h:ks.length=us.length):(f9 ks us k v).length<=us.length+1:=by
 unfold f9;split
 ·rw[acn];lia
 ·rw[aaj];exact aao _
theorem xm.len (d:xm H a ks xs)(r:aS K H A us xs):ks.length=us.length:=by
 rcases d with⟨aX,_,rfl,rfl⟩|⟨es,_,_,rfl,rfl⟩
 ·rw[r.length,aab,aab]
 ·rw[r.length,aab,aab]
theorem QY {k w:U}(mu:∀a,A a->Mu (H a))(ha:A a)(d:xm H a ks xs)(r:aS K H A us xs)(f:iS ks k=true)(hk:Rp K H A k y)(hw:Rp K H A w v)(hl:us.length<aah){C:Hp->Prop}(hC:∀H',(∀b o,b≠a->H b=some o->H' b=some o)->lE K H' A (.dct (g7 ks k) (f9 ks us k w)) a->C H'):V8 H a y v C:=by
 have ln:=d.len r;have l2:(f9 ks us k w).length<=aah:=aaR (Hz ln) hl;have nt:∀b ys,H b=some (.tup ys)->b≠a:=λb ys h e=>by
  subst e;have:=mu b ha;rw[h] at this;exact this
 have fin:∀(o:HO) (zs:List V),xm _ a _ zs->aS K H A _ zs->lE K (cT H a o) A (.dct (g7 ks k) _) a:=λo zs d' r'=>
  ⟨zs,d',l2,r'.re mu (λb o' nb z=>jC _ b o' (λy=>nb (y▸ha)) z) λb z=>.inl z⟩
 have VP:∀(es:List _) (kk:List U) (b:aaM),fF H a es->qU H kk b->k=.tup kk->y=.ref b->ks=es.map (λp=>.tup p.1)->xs=es.map (·.2.2)->V8 H a y v C:=by
  rintro es kk b h kt rfl rfl rfl rfl;have le:es.length=us.length:=by rw[r.length,aab]
  refine .inr ⟨es,kk,b,h,rfl,kt,by lia,λep=>hC _ (jC _) (fin _ _ (.inr ⟨iC es kk b v,C3,?_,(v9 es v).symm,rfl⟩) (v_ hw r))⟩;have tp:∀c ys,H c=some (.tup ys)->cT H a (DN a ep (iC es kk b v)) c=some (.tup ys):=λc ys hc=>by rw[aI (nt c ys hc)];exact hc
  exact⟨.inl ⟨ep,bj⟩,C2 h.nd,λe he=>(zB h.key kt e he).to tp⟩
 unfold iS at f;rw[acO,aau,aau] at f;rcases d with⟨aX,h,e1,e2⟩|⟨es,n,h,e1,e2⟩
 ·rcases f with⟨f1,f2⟩|⟨f1,f2⟩
  ·obtain⟨q,rfl,rfl⟩:=N0 f1 hk;subst e1 e2;have lk:aX.length=us.length:=by rw[r.length,aab]
   exact .inl ⟨_,.inl ⟨aX,q,h,rfl,by lia,rfl⟩,hC _ (jC _) (fin _ _ (.inl ⟨_,bj,(Fc aX v).symm,rfl⟩) (Fd hw r))⟩
  ·cases aX with
   |nil=>
    subst e1 e2;cases k<;>first|(cases f1)|skip
    rename_i kk;obtain⟨b,rfl,kt⟩:=v7 f1 hk;exact VP [] kk b ⟨.inr ⟨rfl,h⟩,acv,(λe he=>by cases he)⟩ kt rfl rfl rfl rfl
   |cons p aX=>
    subst e1;rw[aag,abT,aau] at f2;obtain⟨p1,p2⟩:=p;cases p1<;>cases f2.1
 ·rcases f with⟨f1,f2⟩|⟨f1,f2⟩
  ·exfalso;subst e1;cases es with
   |nil=>exact n rfl
   |cons p es=>rw[aag,abT,aau] at f2;cases f2.1
  ·cases k<;>first|(cases f1)|skip
   rename_i kk;obtain⟨b,rfl,kt⟩:=v7 f1 hk;exact VP es kk b h kt rfl rfl e1 e2
section
variable {o i e f value:aca}{oK bW cpos p1:Pos}{b1 b2 b3:Bool}{m m1 m2 m3:Md}{g1 g2 g3:Ev->R (U×Ev)}{y:Str}
noncomputable def zC:U->U->R U:=λu w=>match u with
 | .dct ks us=>if iS ks w=true then (match fq ks us w with
  |some z=>.ok z
  |none=>.stk) else .stk
 |_=>.stk
theorem N1 (h:Pk K H A u v)(c:Hx u=true\/Hy u=true):Rp K H A u v:=by
 cases u<;>first|(rcases c with c|c<;>cases c;done)|(exact h)
theorem C4 {k:U}(f:iS ks k=true):Hx k=true\/Hy k=true:=by
 unfold iS at f;rw[acO,aau,aau] at f;rcases f with⟨f,_⟩|⟨f,_⟩
 ·exact .inl f
 ·cases k<;>first|(cases f)|exact .inr rfl
theorem BD (hu:X.A.units+64<abI)(ha:DE X G o b1 m1 g1)(hb:DE X G i b2 m2 g2)(hs:Qp i:=by intro _ _;rfl)(hm:m1=.P->b2=false:=by first|exact λ_=>rfl|exact λh=>nomatch h):DE X G (.Subscript o i pos) (b1||b2) .S (bb zC g1 g2):=⟨(Mg hu ha.un hb.un hs).to λσ H Q h=>by
 have hp:fz X.K (λx y H Q=>∃a v,x=.ref a/\Gk H a y (some v)/\Q v H) .S zC:=λA H x y u w z Q hx hy mu e q=>by
  unfold zC at e;split at e;rotate_left
  ·cases e
  split at e
  ·rename_i fk;split at e
   ·rename_i z' hz;cases e;obtain⟨a,xs,rfl,d,l,r⟩:=hx;obtain⟨ov,g,q1,_⟩:=xG d r fk (N1 hy (C4 fk));obtain⟨v,rfl,rp⟩:=q1 _ hz;exact⟨a,v,rfl,g,q v H (aJ.refl _) rp⟩
   ·cases e
  ·cases e
 exact m6 hp hm h⟩
noncomputable def BE (f:Bool->Bool):U->U->R U:=λk u=>match u with
 | .dct ks us=>if iS ks k=true then .ok (.bl (f (fq ks us k).isSome)) else .stk
 |_=>.stk
theorem xH {f:Bool->Bool}:fz K (QU f) .S (BE f):=λA H y x k u z Q hy hx mu e q=>by
 unfold BE at e;split at e;rotate_left
 ·cases e
 rename_i ks us;split at e
 ·rename_i fk;cases e;obtain⟨a,xs,rfl,d,l,r⟩:=hx;obtain⟨ov,g,q1,q2⟩:=xG d r fk (N1 hy (C4 fk));refine⟨a,ov,rfl,g,?_⟩;have:ov.isSome=(fq ks us k).isSome:=by
   cases hz:fq ks us k with
   |none=>rw[q2 hz];rfl
   |some w=>obtain⟨v,rfl,_⟩:=q1 _ hz;rfl
  rw[this];exact q _ H (aJ.refl _) (show Rp K H A _ _ from fA)
 ·cases e
noncomputable def kn (i:Nat)(g2 g3:Ev->R (U×Ev)):Ev->R (U×Ev):=λρ=>match ρ[i]? with
 |some (some (.dct _ _))=>(g2 ρ).bind λk=>(g3 k.2).bind λx=>match x.2[i]? with
  |some (some (.dct ks us))=>if iS ks k.1=true then .ok ((fq ks us k.1).getD x.1,x.2) else .stk
  |_=>.stk
 |_=>.stk
theorem C5 {K:aai}(d:xm H a ks xs):Me H a:=by
 rcases d with⟨aX,h,_⟩|⟨es,_,h,_⟩
 ·exact .inl (.inl ⟨aX,.inl h⟩)
 ·exact .inr ⟨es,h⟩
theorem wa (q:cL K G Z A ρ σ H)(h:ρ[j]? = some (some (.dct ks us))):∃a xs,σ[j]? = some (some (.ref a))/\xm H a ks xs/\us.length<=aah/\aS K H A us xs:=by
 obtain⟨v,h1,h2⟩:=q.slot j _ h;by_cases c:G.is j=true
 ·rw[h9 c] at h2;obtain⟨a,rfl,_,_,_,t⟩:=h2;obtain⟨xs,d,l,r⟩:=t;exact⟨a,xs,h1,d,l,r⟩
 ·rw[hZ c] at h2;obtain⟨a,xs,rfl,_,d,l,r⟩:=h2;exact⟨a,xs,h1,d,l,r⟩
theorem nv (hu:X.A.units+64<abI)(he:DE X G e b1 m1 g1)(hf:DE X G f b2 m2 g2)(n1:m1≠.P:=by decide)(n2:m2≠.P:=by decide)(hN:X.N[j]? = some y:=by rfl)(hv:Gu X.env.scope y:=by first|exact Or.inl rfl|exact Or.inr (Or.inl rfl)|exact Or.inr (Or.inr rfl))(hd:(y==("__debug__":Str))=false:=by decide)(oJ:(y==("__classdict__":Str))=false:=by decide)(M:M2 X (.Name y p1) "get" bW e f cpos:=by exact⟨rfl,rfl,rfl,rfl⟩):DE X G (.Call (.Attribute (.Name y p1) "get" bW) [e,f] [] cpos) (b1||b2) .S (kn j g1 g2):=⟨(Hw hu (jo hN hv hd oJ) he.un hf.un M).to λσ H Q h=>by
 obtain⟨Z,A,ρ,q,f⟩:=h;unfold kn at f;split at f
 ·rename_i ks0 us0 h0;obtain⟨a,xs0,s0,d0,_,_⟩:=wa q h0;obtain⟨⟨k,ρ1⟩,e1,f⟩:=f.bind;obtain⟨⟨x,ρ2⟩,e2,f⟩:=f.bind;split at f
  ·rename_i ks us h2;split at f
   ·rename_i fk;refine⟨.ref a,s0,a,rfl,C5 (K:=X.K) d0,Z,A,ρ,q,?_⟩;rw[e1];intro v1 H1 q1 x1 s1 pZ;refine⟨Z,A,ρ1,q1,?_⟩;rw[e2];intro v2 H2 q2 x2 s2 wX;obtain⟨a',xs,s0',d,_,r⟩:=wa q2 h2;rw[s0] at s0';cases s0';obtain⟨ov,g,z1,z2⟩:=xG d r fk (pZ.laterS q1 x2 n1);refine⟨ov,g,f _ H2 q2 (x1.trans x2) (two s1 s2) ?_⟩;cases hz:fq ks us k with
    |none=>rw[z2 hz];exact wX.rp n2
    |some w=>obtain⟨v,rfl,rp⟩:=z1 _ hz;exact rp
   ·exact f.elim
  ·exact f.elim
 ·exact f.elim⟩
noncomputable def g8 (i:Nat)(gv gk:Ev->R (U×Ev)):Ev->SR:=λρ=>SR.of (gv ρ) λx=>if Hi x.2 i=true then SR.of (gk x.2) λy=>match y.2[i]? with
 |some (some (.dct ks us))=>if iS ks y.1=true/\us.length<aah then .nx (y.2.set i (some (.dct (g7 ks y.1) (f9 ks us y.1 x.1)))) else .stk
 |_=>.stk
 else .stk
theorem iJ (hu:X.A.units+64<abI)(hv:DE X G value b1 m1 g1)(hk:DE X G i b2 m2 g2)(n1:m1≠.P:=by decide)(n2:m2≠.P:=by decide)(hN:X.N[j]? = some y:=by rfl)(ZX:Gu X.env.scope y:=by first|exact Or.inl rfl|exact Or.inr (Or.inl rfl)|exact Or.inr (Or.inr rfl))(c:G.is j=true:=by rfl)(hd:(y==("__debug__":Str))=false:=by decide)(oJ:(y==("__classdict__":Str))=false:=by decide)(hs:ado value (some (.Subscript (.Name y p1) i oK)) pos.line X.env=pure false:=by rfl):DS X G m (.Assign [.Subscript (.Name y p1) i oK] value pos) (g8 j g1 g2):=⟨(Mh hu (jo hN ZX hd oJ) hk.un hv.un hs).to λD σ H h00=>by
 obtain⟨Z,A,ρ,q,f⟩:=h00;obtain⟨⟨w,ρ1⟩,e1,f⟩:=f.of;refine⟨Z,A,ρ,q,?_⟩;rw[e1];intro v H1 q1 x1 s1 vm;split at f
 ·rename_i hl;obtain⟨u00,hu0⟩:=xq hl;obtain⟨a0,h0,_⟩:=q1.own c hu0;obtain⟨⟨k,ρ2⟩,e2,f⟩:=f.of;refine⟨.ref a0,h0,Z,A,ρ1,q1,?_⟩;rw[e2];intro v2 H2 q2 x2 s2 wX;split at f
  ·rename_i ks us Y6;split at f
   ·rename_i fk;obtain⟨a0',k1,k2,_,_,k5⟩:=q2.own c Y6;rw[h0] at k1;cases k1;obtain⟨xs,d,_,r⟩:=k5;exact⟨a0,rfl,QY q2.mu k2 d r fk.1 (wX.rp n2) ((vm.rp n1).re q1.mu x2 λb z=>.inl z) fk.2 λH' em t=>f A σ H' (q2.put c Y6 h0 em t)⟩
   ·exact f.elim
  ·exact f.elim
 ·exact f.elim⟩
end
end L2
namespace Hc.Sx
open PySem.SetTable
noncomputable abbrev ZD (w:abq):Bool:=w.params.followText "set-order"
noncomputable abbrev newS (w:abq):Obj:={cls:=.type "set",dict:=none,data:=.set #[] 0 (.fresh 0 0 (!ZD w))}
section
variable {w:abq}{A:aba}
theorem HA (x:aak)(q:Q (.ref s.heap.objs.size) {s with heap:=s.heap.push (newS w)}):codeAny (aa1 prog w) A (.call (.builtin "set.__new__") ⟨[.type "set",x],[]⟩) (wants Q E) s:=by
 refine codeAny_of_tree ?_;refine aaa (afx (PySem.F.newCall_set_1 x) (aae ⟨afk PySem.F.plain_set_new _,acN PySem.F.entry_set_new ?_⟩));unfold Builtin.«set.__new__» Builtin.Frozenset.newClass;have sb:=sub_set_self;wp_walk;refine wpAny_askSetting (aae ?_);exact aaa (wpAny_alloc (aae (aae q)))
theorem set_call (R:aaD->Prop)(fill:aaW (aa1 prog w) A.in1.in1 (Builtin.«set.__init__» ⟨[.ref s.heap.objs.size,.ref t],[]⟩) (λfin s'=>∃r,fin=.done (.ret r)/\r=.none/\R s') E {s with heap:=s.heap.push (newS w)})(q:∀s',R s'->Q (.ref s.heap.objs.size) s'):aaW (aa1 prog w) A (call (.type "set") [.ref t]) Q E s:=by
 have mk0:=PySem.F.called_set.made;have sb0:=PySem.F.called_set.sub;have tc0:=PySem.F.typeCall_set_1 (Value.ref t);refine wpAny_call (codeAny_of_tree ?_);refine aae ⟨Code.quiet_builtin _ (by decide+kernel),acN PySem.F.entry_type_call ?_⟩
 repeat (any_goals first|assumption|wp_step)
 refine ael (HA _ (E:=E) (Q:=λx s1=>x=.ref _/\s1={s with heap:=s.heap.push (newS w)}) ⟨rfl,rfl⟩) λr s1 hr=>?_;cases r with
 |error e=>exact hr
 |ok fl=>
  cases fl with
  |ret ob=>
   obtain⟨rfl,rfl⟩:=hr;have gS:(s.heap.push (newS w)).get? _=some (newS w):=aam _ rfl;have tS:Shared.TypeIs {s with heap:=s.heap.push (newS w)} (.ref _) "set":=⟨_,gS,rfl⟩;have il:=PySem.F.called_set.init.lookup;have ib:=PySem.F.called_set.init.bind (Value.ref s.heap.objs.size)
   repeat (any_goals first|assumption|wp_step)
   refine ael (codeAny_call_builtin (R:=wants (λr s2=>r=.none/\R s2) E) PySem.F.called_set.init.plain PySem.F.entry_set_init (check_set_init_1 tS ?_)) λr2 s2 vH=>?_
   ·exact abk fill (λfin s' ⟨r,e,h1,h2⟩=>by subst e;exact⟨h1,h2⟩) (λe s' h=>h)
   ·cases r2 with
    |error e=>exact vH
    |ok f2=>
     cases f2 with
     |ret r=>
      obtain⟨rfl,h2⟩:=vH
      repeat (any_goals first|assumption|wp_step)
      exact q _ h2
     |_=>exact vH.elim
  |_=>exact hr.elim
variable {K:Type}[DecidableEq K]{knd:HeapKind prog w K}
end
end Hc.Sx
namespace L2
noncomputable def j0 (ns:List Int):List Int:=ns.foldl step_dedup []
def nA (ns:List Int):firstMet (λi=>ns.getD i 0) ns.length=j0 ns:=by
 unfold firstMet j0;congr 1;apply afc (by simp);intro i h1 h2;simp[aac h2]
section
variable {e:aca}{u5 p1:Pos}{b1:Bool}{ga:Ev->R (List U×Ev)}
def QZ:abr "set"=some (.type "set"):=by decide+kernel
def HB (ns:List Int):(j0 ns).length<=ns.length:=by
 rw[←nA];exact firstMet_length_le _ _
def N2:List V->Hp->VK->Prop:=λxs H Q=>∃(p:aaM) (S:Int->Bool) (n:Nat),xs=[.ref p]/\H p=some (.set S n)/\n<64/\Q (.int n) H
theorem Fe:d5 X (.builtin "len") N2:=by
 intro pins s σ H xs us Q I r h;obtain⟨p,S,n,rfl,hq,h64,q⟩:=h;obtain⟨u,rfl,rx⟩:=gX r;cases rx;obtain⟨o,es,ep,t,ho,hx,hd,_,_,_,hf,hn⟩:s.heap.SetOf _ p S n:=I.hok p _ hq;subst hn;exact call_len_set ho hx hd hf (by lia) ⟨.int _,H,I.tok _,⟨_,rfl⟩,q⟩
end
theorem zD {xs:List V}{us:List aak}(r:aV xs us):∀n:Nat,aV (aa9 n xs).flatten (aa9 n us).flatten
 |0=>.nil
 |n+1=>by
  exact r.append (zD r n)
def C6 {α:Type}(xs:List α)(n:Nat):(aa9 n xs).flatten.length=xs.length*n:=by
 simp[Nat.mul_comm]
theorem C7 {H:Hp}{A:aaM->Prop}{us:List U}{xs:List V}(r:aS K H A us xs):∀n:Nat,aS K H A (aa9 n us).flatten (aa9 n xs).flatten
 |0=>aS.nil
 |n+1=>by
  exact r.append (C7 r n)
@[irreducible] noncomputable def Q0 (X:Cx)(G:Gm)(es:List aca)(b p:Bool)(g:Ev->R (List U×Ev)):Prop:=DA X G es b p g
section
variable {e:aca}{es:List aca}{b1 b2 p:Bool}{m1:Md}{g1:Ev->R (U×Ev)}{ga:Ev->R (List U×Ev)}
end
end L2
namespace Hc.Zp
def iT (l:Bool)(h:acP)(a:aaM)(xs:Array aak):Prop:=if l=true then h.IsList a xs else h.IsTuple a xs
def gw (l:Bool)(h:acP)(it a:aaM)(i:Nat):Prop:=if l=true then h.IsListIter it a i else h.IsTupleIter it a i
noncomputable def Ff (l:Bool):String:=if l=true then "list_iterator" else "tuple_iterator"
theorem iT.at {l:Bool}{xs:Array aak}(x:iT l h a xs)(e:∀o,h.get? a=some o->h'.get? a=some o):iT l h' a xs:=by
 cases l with
 |true=>exact Heap.IsList.at x e
 |false=>exact Heap.IsTuple.at x e
theorem gw.at {l:Bool}(x:gw l h it a i)(e:∀o,h.get? it=some o->h'.get? it=some o):gw l h' it a i:=by
 cases l with
 |true=>exact Heap.IsListIter.at x e
 |false=>exact Heap.IsTupleIter.at x e
theorem gw.obj {l:Bool}(x:gw l h it a i):∃o,h.get? it=some o/\o.data=.fields #[.ref a,.int i 0]/\o.cls=.type (Ff l):=by
 cases l with
 |true=>obtain⟨o,e,c,d⟩:=x;exact⟨o,e,d,c⟩
 |false=>obtain⟨o,e,c,d⟩:=x;exact⟨o,e,d,c⟩
section
variable {w:abq}{A:aba}
theorem BF {xs:Array aak}{x:aak}(hi:s.heap.IsTupleIter it a i)(ha:s.heap.IsTuple a xs)(hx:xs[i]? = some x)(q:∀h',h'.IsTupleIter it a (i+1)->aek it s.heap h'->Q x {s with heap:=h'}):aaW (aa1 prog w) A (ac3 (.ref it)) Q E s:=by
 obtain⟨o,ho,hc,hd⟩:=id hi;obtain⟨oa,hoa,_,na,hda⟩:=ha;refine aaa (aa6 hi.typeIs acS (aa0 acS hi.typeIs afy ?_ (afl _)));show aaW _ _ (field _ 0 >>= _) _ _ s;refine aaa (abH ho hd rfl ?_);refine aaa (abH ho hd rfl ?_);refine aaa (acu hoa hda ?_);simp only[aaY,hx];refine aaa (adw ho hd (by simp) (aae ⟨x,rfl,aae (q _ ⟨_,adF _ ho (ae4 (acZ hd _)),(af0 ..).trans hc,?_⟩ (aco ..))⟩));rw[acZ hd];simp[rawInt]
theorem Fg {xs:Array aak}(hh:A.handled=none)(hi:s.heap.IsTupleIter it a i)(ha:s.heap.IsTuple a xs)(hx:xs[i]? = none)(q:∀h' e,Heap.ExtBut it s.heap h'->(∃o,h'.get? e=some o/\o.cls=.type "StopIteration")->E (.ref e) {s with heap:=h'}):aaW (aa1 prog w) A (ac3 (.ref it)) Q E s:=by
 obtain⟨o,ho,hc,hd⟩:=id hi;obtain⟨oa,hoa,_,na,hda⟩:=ha;refine aaa (aa6 hi.typeIs acS (aa0 acS hi.typeIs afy ?_ (afl _)));show aaW _ _ (field _ 0 >>= _) _ _ s;refine aaa (abH ho hd rfl ?_);refine aaa (abH ho hd rfl ?_);refine aaa (acu hoa hda ?_);simp only[aaY,hx];refine aaa (acU (aaa (adw ho hd (by simp) ?_)));refine aaa ?_;refine aaa (m:=afP _ _) (afx (by first|rfl|(rfl)) ?_);refine abl ?_ (by size_fits);refine aaa (wpAny_handled ?_)
 first|rw[hh]|rw[hh]
 exact aaa (aae (wpAny_throw (q _ _ (((aco ..).extBut.push _).push _) ⟨_,aam _ rfl,rfl⟩)))
theorem pb {l:Bool}{xs:Array aak}{x:aak}(hi:gw l s.heap it a i)(ha:iT l s.heap a xs)(hx:xs[i]? = some x)(q:∀h',gw l h' it a (i+1)->aek it s.heap h'->Q x {s with heap:=h'}):aaW (aa1 prog w) A (ac3 (.ref it)) Q E s:=by
 cases l with
 |true=>exact wpAny_nextOf_list_item hi ha hx q
 |false=>exact BF hi ha hx q
theorem zE {l:Bool}{xs:Array aak}(hh:A.handled=none)(hi:gw l s.heap it a i)(ha:iT l s.heap a xs)(hx:xs[i]? = none)(q:∀h' e,Heap.ExtBut it s.heap h'->(∃o,h'.get? e=some o/\o.cls=.type "StopIteration")->E (.ref e) {s with heap:=h'}):aaW (aa1 prog w) A (ac3 (.ref it)) Q E s:=by
 cases l with
 |true=>exact wpAny_nextOf_list_end hh hi ha hx q
 |false=>exact Fg hh hi ha hx q
theorem C8 {l:Bool}{xs:Array aak}(ha:iT l s.heap a xs)(q:Q (.ref s.heap.objs.size) {s with heap:=s.heap.push {cls:=.type (Ff l),data:=.fields #[.ref a,.int 0 0]}}):aaW (aa1 prog w) A (pyIter (.ref a)) Q E s:=by
 cases l with
 |true=>exact adN ha q
 |false=>exact wpAny_pyIter_tuple ha q
def Fh {l1 l2:Bool}{xs:Array aak}{x y p:aak}(D:ZipApart z uI uO i1 i2 a1 a2)(hz:IsZip s.heap z uI uO .none)(SJ:afh s.heap uI (.ref i1) (.ref i2))(SK:afh s.heap uO p q)(h1:gw l1 s.heap i1 a1 k)(h2:gw l2 s.heap i2 a2 k)(g1:iT l1 s.heap a1 xs)(g2:iT l2 s.heap a2 ys)(hx:xs[k]? = some x)(hy:ys[k]? = some y)(hQ:∀h',IsZip h' z uI uO (rawInt s.heap.objs.size)->afh h' uO x y->gw l1 h' i1 a1 (k+1)->gw l2 h' i2 a2 (k+1)->afh h' s.heap.objs.size x y->(∀c o,c≠z->c≠uO->c≠i1->c≠i2->s.heap.get? c=some o->h'.get? c=some o)->Q (.ref s.heap.objs.size) {s with heap:=h'}) :
  aaW (aa1 prog w) A (Builtin.«zip.__next__» ⟨[.ref z],[]⟩) (λfin s'=>∃v,fin=.done (.ret v)/\Q v s') E s:=by
 show aaW _ _ (field _ 2 >>= _) _ _ _;refine aaa (abH hz rfl rfl ?_);refine aaa (abH hz rfl rfl (aaa (acu SJ rfl ?_)));refine aaa ?_;refine aaa (abH hz rfl rfl (aae ?_));refine aaa (acU (aaa (abH hz rfl rfl (aaa (abC hz (by simp) λw1 z1 b1=>?_)))));refine aaa ?_;refine aaa (aaa (wpAny_onRaise ?_));refine aaa (pb (h1.at λo e=>b1.extBut _ _ D.i1z e) (g1.at λo e=>b1.extBut _ _ D.l1z e) hx λw2 n2 b2=>aae ?_);have t2:=b2.extBut _ _ D.TOi1 (b1.extBut _ _ D.TOz SK);refine aaa (acu t2 rfl (aaa (afi t2 λw3 t3 b3=>?_)));refine aaa (wpAny_letGo (aae ?_));refine aaa (aaa (wpAny_onRaise ?_));refine aaa (pb (h2.at λo e=>b3.extBut _ _ D.TOi2.symm (b2.extBut _ _ D.i12.symm (b1.extBut _ _ D.i2z e))) (g2.at λo e=>b3.extBut _ _ D.l2TO (b2.extBut _ _ D.l2i1 (b1.extBut _ _ D.l2z e))) hy λw4 n4 b4=>aae ?_);have t4:=b4.extBut _ _ D.TOi2 t3;refine aaa (acu t4 rfl (aaa (afi t4 λw5 t5 b5=>?_)))
 replace t5:afh w5 uO x y:=t5
 refine aaa (wpAny_letGo (aae (aae ?_)));refine aaa (acu t5 rfl (aaa (wpAny_newTuple ?_)));have sz:w5.objs.size=s.heap.objs.size:=by rw[b5.1,b4.1,b3.1,b2.1,b1.1]
 have z5:=b5.extBut _ _ D.TOz.symm (b4.extBut _ _ D.i2z.symm (b3.extBut _ _ D.TOz.symm (b2.extBut _ _ D.i1z.symm z1)));have kp:∀c o,c≠z->c≠uO->c≠i1->c≠i2->s.heap.get? c=some o->w5.get? c=some o:=λc o c1 c2 c3 c4 e=>b5.extBut _ _ c2 (b4.extBut _ _ c4 (b3.extBut _ _ c2 (b2.extBut _ _ c3 (b1.extBut _ _ c1 e))));have n5:=n2.at λo e=>b5.extBut _ _ D.TOi1.symm (b4.extBut _ _ D.i12 (b3.extBut _ _ D.TOi1.symm e));have m5:=n4.at λo e=>b5.extBut _ _ D.TOi2.symm e;have lz:=aaA z5;refine aaa ?_;have z6:IsZip (w5.push {cls:=.type "tuple",data:=.seq #[x,y]}) z uI uO .ellipsis:=aad _ z5;refine aaa (abC z6 (by simp) λw7 z7 b7=>?_);refine abC z7 (by simp) λw8 z8 b8=>?_;have up:∀c o,c≠z->w5.get? c=some o->w8.get? c=some o:=λc o c1 e=>b8.extBut _ _ c1 (b7.extBut _ _ c1 (aad _ e));have t8:=b8.extBut _ _ (acX lz) (b7.extBut _ _ (acX lz) (aam _ rfl));rw[sz] at z8 t8;refine aae ⟨_,rfl,?_⟩;rw[sz];exact hQ w8 z8 (up _ _ D.TOz t5) (n5.at λo e=>up _ o D.i1z e) (m5.at λo e=>up _ o D.i2z e) t8 λc o c1 c2 c3 c4 e=>up c o c1 (kp c o c1 c2 c3 c4 e)
theorem HC {l1 l2:Bool}{xs:Array aak}{p:aak}{Q:Fin->aaD->Prop}(hh:A.handled=none)(D:ZipApart z uI uO i1 i2 a1 a2)(hz:IsZip s.heap z uI uO .none)(SJ:afh s.heap uI (.ref i1) (.ref i2))(SK:afh s.heap uO p q)(h1:gw l1 s.heap i1 a1 k)(h2:gw l2 s.heap i2 a2 k)(g1:iT l1 s.heap a1 xs)(g2:iT l2 s.heap a2 ys)(SM:xs[k]? = none\/ys[k]? = none)(hE:∀h' e,(∀c o,c≠z->c≠uO->c≠i1->c≠i2->s.heap.get? c=some o->h'.get? c=some o)->(∃o,h'.get? e=some o/\o.cls=.type "StopIteration")->E (.ref e) {s with heap:=h'}) :
  aaW (aa1 prog w) A (Builtin.«zip.__next__» ⟨[.ref z],[]⟩) Q E s:=by
 show aaW _ _ (field _ 2 >>= _) _ _ _;refine aaa (abH hz rfl rfl ?_);refine aaa (abH hz rfl rfl (aaa (acu SJ rfl ?_)));refine aaa ?_;refine aaa (abH hz rfl rfl (aae ?_));refine aaa (acU (aaa (abH hz rfl rfl (aaa (abC hz (by simp) λw1 z1 b1=>?_)))));refine aaa ?_;refine aaa (aaa (wpAny_onRaise ?_));cases hx:xs[k]? with
 |none=>
  refine aaa (zE hh (h1.at λo e=>b1.extBut _ _ D.i1z e) (g1.at λo e=>b1.extBut _ _ D.l1z e) hx λw2 e b2 he=>?_);obtain⟨oe,hoe,hce⟩:=he;have z2:=b2 _ _ D.i1z.symm z1;have nz:e≠z:=λx=>by subst x;rw[z2] at hoe;cases hoe;simp at hce
  exact abC z2 (by simp) λw3 _ b3=>hE w3 e (λc o c1 _ c3 _ x=>b3.extBut _ _ c1 (b2 _ _ c3 (b1.extBut _ _ c1 x))) ⟨oe,b3.extBut _ _ nz hoe,hce⟩
 |some x=>
  have hy:ys[k]? = none:=by rcases SM with h|h;rw[hx] at h;cases h;exact h
  refine aaa (pb (h1.at λo e=>b1.extBut _ _ D.i1z e) (g1.at λo e=>b1.extBut _ _ D.l1z e) hx λw2 n2 b2=>aae ?_);have t2:=b2.extBut _ _ D.TOi1 (b1.extBut _ _ D.TOz SK);refine aaa (acu t2 rfl (aaa (afi t2 λw3 t3 b3=>?_)));refine aaa (wpAny_letGo (aae ?_));refine aaa (aaa (wpAny_onRaise ?_));refine aaa (zE hh (h2.at λo e=>b3.extBut _ _ D.TOi2.symm (b2.extBut _ _ D.i12.symm (b1.extBut _ _ D.i2z e))) (g2.at λo e=>b3.extBut _ _ D.l2TO (b2.extBut _ _ D.l2i1 (b1.extBut _ _ D.l2z e))) hy λw4 e b4 he=>?_);obtain⟨oe,hoe,hce⟩:=he;have z4:=b4 _ _ D.i2z.symm (b3.extBut _ _ D.TOz.symm (b2.extBut _ _ D.i1z.symm z1));have nz:e≠z:=λx=>by subst x;rw[z4] at hoe;cases hoe;simp at hce
  exact abC z4 (by simp) λw5 _ b5=>hE w5 e (λc o c1 c2 c3 c4 x=>b5.extBut _ _ c1 (b4 _ _ c4 (b3.extBut _ _ c2 (b2.extBut _ _ c3 (b1.extBut _ _ c1 x))))) ⟨oe,b5.extBut _ _ nz hoe,hce⟩
theorem Fi {l1 l2:Bool}{xs:Array aak}{x y p:aak}{Q:Option aak->aaD->Prop}(D:ZipApart z uI uO i1 i2 a1 a2)(hz:IsZip s.heap z uI uO .none)(SJ:afh s.heap uI (.ref i1) (.ref i2))(SK:afh s.heap uO p q)(h1:gw l1 s.heap i1 a1 k)(h2:gw l2 s.heap i2 a2 k)(g1:iT l1 s.heap a1 xs)(g2:iT l2 s.heap a2 ys)(hx:xs[k]? = some x)(hy:ys[k]? = some y)(hQ:∀h',IsZip h' z uI uO (rawInt s.heap.objs.size)->afh h' uO x y->gw l1 h' i1 a1 (k+1)->gw l2 h' i2 a2 (k+1)->afh h' s.heap.objs.size x y->(∀c o,c≠z->c≠uO->c≠i1->c≠i2->s.heap.get? c=some o->h'.get? c=some o)->Q (some (.ref s.heap.objs.size)) {s with heap:=h'}) :
  aaW (aa1 prog w) A (pyNext (.ref z)) Q E s:=by
 have hT:s.TypeIs (.ref z) "zip":=⟨_,hz,rfl⟩;exact aaa (ac0 (aa6 hT afz (aa0 afz hT F.entry_zip_next (Fh D hz SJ SK h1 h2 g1 g2 hx hy λh' c1 c2 c3 c4 c5 c6=>aae (hQ h' c1 c2 c3 c4 c5 c6)) (F.args_zip_next_1 _))))
theorem Fj {l1 l2:Bool}{xs:Array aak}{p:aak}{Q:Option aak->aaD->Prop}(hh:A.handled=none)(D:ZipApart z uI uO i1 i2 a1 a2)(hz:IsZip s.heap z uI uO .none)(SJ:afh s.heap uI (.ref i1) (.ref i2))(SK:afh s.heap uO p q)(h1:gw l1 s.heap i1 a1 k)(h2:gw l2 s.heap i2 a2 k)(g1:iT l1 s.heap a1 xs)(g2:iT l2 s.heap a2 ys)(SM:xs[k]? = none\/ys[k]? = none)(hQ:∀h',(∀c o,c≠z->c≠uO->c≠i1->c≠i2->s.heap.get? c=some o->h'.get? c=some o)->Q none {s with heap:=h'}):aaW (aa1 prog w) A (pyNext (.ref z)) Q E s:=by
 have hT:s.TypeIs (.ref z) "zip":=⟨_,hz,rfl⟩;refine aaa (ac0 (aa6 hT afz (aa0 afz hT F.entry_zip_next (HC hh D hz SJ SK h1 h2 g1 g2 SM λh' e hk ⟨o,ho,hc⟩=>?_) (F.args_zip_next_1 _))));exact aaa (adp ⟨o,ho,hc⟩ afQ (aae (hQ _ hk)))
end
noncomputable abbrev Xf (l1:Bool)(h:acP)(a1:aaM):acP:=h.push {cls:=.type (Ff l1),data:=.fields #[.ref a1,.int 0 0]}
noncomputable abbrev Xg (l1 l2:Bool)(h:acP)(a1 a2:aaM):acP:=(Xf l1 h a1).push {cls:=.type (Ff l2),data:=.fields #[.ref a2,.int 0 0]}
noncomputable abbrev Xh (l1 l2:Bool)(h:acP)(a1 a2:aaM):acP:=(Xg l1 l2 h a1 a2).push {cls:=.type "tuple",data:=.seq #[.ref h.objs.size,.ref (Xf l1 h a1).objs.size]}
noncomputable abbrev Xi (l1 l2:Bool)(h:acP)(a1 a2:aaM):acP:=(Xh l1 l2 h a1 a2).push {cls:=.type "tuple",data:=.seq #[.none,.none]}
noncomputable abbrev S1 (l1 l2:Bool)(h:acP)(a1 a2:aaM):acP:=(Xi l1 l2 h a1 a2).push {cls:=.type "zip",data:=.fields #[.none,.bool false,.bool false,.ref (Xg l1 l2 h a1 a2).objs.size,.ref (Xh l1 l2 h a1 a2).objs.size]}
theorem HD (l1 l2:Bool)(a1 a2:aaM)(xs ys:Array aak):Meets (Builtin.«zip.__new__» ⟨[.type "zip",.ref a1,.ref a2],[]⟩) (λ_ R s=>iT l1 s.heap a1 xs/\iT l2 s.heap a2 ys/\R (.ok (.ret (.ref (Xi l1 l2 s.heap a1 a2).objs.size))) {s with heap:=S1 l1 l2 s.heap a1 a2}):=
 .of_wp λprog w A R s h=>by
  obtain⟨hp,g,d,tk,os⟩:=s;obtain⟨g1,g2,h⟩:=h;have sb:=sub_zip;have q1:=g1;have q2:iT l2 (Shared.heap ⟨hp.push {cls:=.type (Ff l1),data:=.fields #[.ref a1,.int 0 0]},g,d,tk,os⟩) a2 ys:=g2.at λo e=>aad _ e;wp_walk using C8 q1,C8 q2;exact⟨_,rfl,h⟩
section
variable {w:abq}{A:aba}
theorem Fm {l1 l2:Bool}{xs:Array aak}(g1:iT l1 s.heap a1 xs)(g2:iT l2 s.heap a2 ys)(h:∀h',IsZip h' (s.heap.objs.size+4) (s.heap.objs.size+2) (s.heap.objs.size+3) .none->afh h' (s.heap.objs.size+2) (.ref s.heap.objs.size) (.ref (s.heap.objs.size+1))->afh h' (s.heap.objs.size+3) .none .none->
   gw l1 h' s.heap.objs.size a1 0->gw l2 h' (s.heap.objs.size+1) a2 0->(∀c o,s.heap.get? c=some o->h'.get? c=some o)->Q (.ref (s.heap.objs.size+4)) {s with heap:=h'}):aaW (aa1 prog w) A (call (.type "zip") [.ref a1,.ref a2]) Q E s:=by
 refine callType_new F.called_zip (by decide) (F.typeCall_zip_2 _ _) (F.newCall_zip_2 _ _) (λobj=>F.args_object_init_3 obj _ _) F.entry_zip_new (HD l1 l2 a1 a2 xs ys) ⟨g1,g2,?_⟩;have z1:(Xf l1 s.heap a1).objs.size=s.heap.objs.size+1:=ab0 ..;have z2:(Xg l1 l2 s.heap a1 a2).objs.size=s.heap.objs.size+2:=by rw[ab0,z1]
 have z3:(Xh l1 l2 s.heap a1 a2).objs.size=s.heap.objs.size+3:=by rw[ab0,z2]
 have z4:(Xi l1 l2 s.heap a1 a2).objs.size=s.heap.objs.size+4:=by rw[ab0,z3]
 have e5:(S1 l1 l2 s.heap a1 a2).get? _=some _:=aam _ rfl;have e4:(S1 l1 l2 s.heap a1 a2).get? _=some _:=aad _ (aam _ rfl);have e3:(S1 l1 l2 s.heap a1 a2).get? _=some _:=aad _ (aad _ (aam _ rfl));have e2:(S1 l1 l2 s.heap a1 a2).get? _=some _:=aad _ (aad _ (aad _ (aam _ rfl)));have e1:(S1 l1 l2 s.heap a1 a2).get? _=some _:=aad _ (aad _ (aad _ (aad _ (aam _ rfl))));rw[z2,z3,z4] at e5;rw[z1,z2] at e3;rw[z3] at e4;rw[z1] at e2;rw[z4];have mk:∀(l:Bool) (hp:acP) (it a:aaM) (_:hp.get? it=some {cls:=.type (Ff l),data:=.fields #[.ref a,.int 0 0]}),gw l hp it a 0:=λl hp it a e=>by
  cases l with
  |true=>exact⟨_,e,rfl,rfl⟩
  |false=>exact⟨_,e,rfl,rfl⟩
 exact⟨⟨_,e5,rfl⟩,h _ e5 e3 e4 (mk l1 _ _ _ e1) (mk l2 _ _ _ e2) λc o x=>aad _ (aad _ (aad _ (aad _ (aad _ x))))⟩
end
end Hc.Zp
namespace L2
open Hc.Zp
section
variable {T:aaM}{o:HO}
theorem aE.turnNew {t':Nat}(I:aE X pins σ H s)(hf:∀b∈fp,qQ X pins H b)(k:∀b o,b∉fp->s.heap.get? b=some o->h'.get? b=some o)(hT:s.heap.objs.size<=T)(new:cP X.prog X.w (cT H T o) h' T o) :
  aE X pins σ (cT H T o) {s with heap:=h',toks:=t'}:=by
 have hn:=I.hok.fresh hT;have nf:∀b u,H b=some u->b∉fp:=λb u e z=>by rw[(hf b z).1] at e;cases e
 have nT:∀b u,H b=some u->b≠T:=λb u e z=>by rw[z,hn] at e;cases e
 refine I.step (λb hb=>?_) (λb o _ _ hc e _=>k b o hc e) (λb o _ _ hc e _=>⟨o.slots,k b o hc e⟩) (λb o _ e n=>?_) (λb o hc e=>⟨o,k b o hc e⟩)
  (λb xs e=>?_) (λb o u e=>?_) (λb ps e=>⟨#[],?_⟩) (λm hm=>?_) (λb u e=>?_) I.bare
 ·obtain⟨f0,f1,f2,f3,f4,f5⟩:=hf b hb;exact⟨f3,f1,f4,f5⟩
 ·rw[aI (aaN (aa_ (aaA e) hT))];exact n
 ·rw[aI (nT b _ e)];exact e
 ·rw[aI (nT b _ e)];exact e
 ·rw[aI (nT b _ e),e];simp
 ·obtain⟨o,es,ep,ho,r⟩:=hm;exact⟨o,es,ep,k _ o (λz=>(hf _ z).2.1 rfl) ho,r⟩
 ·by_cases c:b=T
  ·subst c;rw[bj] at e;cases e;exact new
  ·rw[aI c] at e;refine (I.hok b u e).stay (λc v hc q=>k c v ?_ q) (λc q=>by rw[aI (nT c _ q)];exact q) λc xs q=>by rw[aI (nT c _ q)];exact q
   rcases hc with z|z
   ·rw[z];exact nf b u e
   ·exact nf c _ z
theorem aE.turneds {t':Nat}(I:aE X pins σ H s)(hf:∀b∈fp,qQ X pins H b)(k:∀b o,b∉fp->s.heap.get? b=some o->h'.get? b=some o):aE X pins σ H {s with heap:=h',toks:=t'}:=by
 have nf:∀b u,H b=some u->b∉fp:=λb u e z=>by rw[(hf b z).1] at e;cases e
 refine I.step (λb hb=>?_) (λb o _ _ hc e _=>k b o hc e) (λb o _ _ hc e _=>⟨o.slots,k b o hc e⟩) (λb o _ e n=>n) (λb o hc e=>⟨o,k b o hc e⟩)
  (λb xs e=>e) (λb o u e=>e) (λb ps e=>⟨#[],by rw[e];simp⟩) (λm hm=>?_) (λb u e=>?_) I.bare
 ·obtain⟨f0,f1,f2,f3,f4,f5⟩:=hf b hb;exact⟨f3,f1,f4,f5⟩
 ·obtain⟨o,es,ep,ho,r⟩:=hm;exact⟨o,es,ep,k _ o (λz=>(hf _ z).2.1 rfl) ho,r⟩
 ·refine (I.hok b u e).stay (λc v hc q=>k c v ?_ q) (λ_ q=>q) λ_ _ q=>q;rcases hc with z|z
  ·rw[z];exact nf b u e
  ·exact nf c _ z
def Fo (l:Bool)(K:aai)(H:Hp)(a:aaM)(xs:List V):Prop:=if l=true then fX K H a xs else gr K H a xs
theorem aE.sq {l:Bool}(I:aE X pins σ H s)(q:Fo l X.K H a xs):∃aD,aV xs aD/\iT l s.heap a aD.toArray:=by
 cases l with
 |true=>obtain⟨aD,rv,p,_⟩:=I.list q;exact⟨aD,rv,p.isList⟩
 |false=>obtain⟨aD,rv,p,_⟩:=I.tuple q;exact⟨aD,rv,p⟩
theorem aE.sq_inj {l:Bool}{ys:List V}(I:aE X pins σ H s)(q:Fo l X.K H a xs)(q':Fo l X.K H a ys):xs=ys:=by
 cases l with
 |true=>exact I.list_inj q q'
 |false=>exact I.tuple_inj q q'
end
noncomputable def YA (K:aai)(l1 l2:Bool)(a1 a2:aaM):It:=
  ⟨λi H=>∃xs ys x y,Fo l1 K H a1 xs/\Fo l2 K H a2 ys/\xs[i]? = some x/\ys[i]? = some y,
   λi H v H'=>∃T x y,v=.ref T/\H T=none/\H'=cT H T (.tup [x,y])/\(∀xs,Fo l1 K H a1 xs->xs[i]? = some x)/\(∀ys,Fo l2 K H a2 ys->ys[i]? = some y),
   λi H=>∃xs ys,Fo l1 K H a1 xs/\Fo l2 K H a2 ys/\(xs.length<=i\/ys.length<=i)⟩
theorem HF {w:abq}{l1 l2:Bool}(D:ZipApart z uI uO i1 i2 a1 a2) :
  w_ P w K (.Tuple elts kt tp) (YA K l1 l2 a1 a2) [z,uI,uO,i1,i2] z (λi h=>IsZip h z uI uO .none/\afh h uI (.ref i1) (.ref i2)/\(∃p q,afh h uO p q)/\gw l1 h i1 a1 i/\gw l2 h i2 a2 i) where
 mem:=by simp
 obj:=λi h ⟨hz,hI,⟨p,q,hO⟩,h1,h2⟩ b hb=>by
  obtain⟨o1,e1,d1,_⟩:=h1.obj;obtain⟨o2,e2,d2,_⟩:=h2.obj;simp only[aaw,acW,or_false] at hb;rcases hb with rfl|rfl|rfl|rfl|rfl
  ·exact⟨_,hz,λv e=>by cases e⟩
  ·exact⟨_,hI,λv e=>by cases e⟩
  ·exact⟨_,hO,λv e=>by cases e⟩
  ·exact⟨o1,e1,λv e=>by rw[d1] at e;cases e⟩
  ·exact⟨o2,e2,λv e=>by rw[d2] at e;cases e⟩
 keep:=λi h h' ⟨hz,hI,⟨p,q,hO⟩,h1,h2⟩ k=>⟨k z (by simp) _ hz,k uI (by simp) _ hI,⟨p,q,k uO (by simp) _ hO⟩,h1.at λo e=>k i1 (by simp) o e,h2.at λo e=>k i2 (by simp) o e⟩
 item:=by
  intro X hP hw hK hc i pins s σ H E I hf st hg;subst hP hw hK;obtain⟨hz,hI,⟨p,q,hO⟩,h1,h2⟩:=st;obtain⟨xs,ys,x,y,q1,q2,hx,hy⟩:=hg;obtain⟨is1,v1,g1⟩:=I.sq q1;obtain⟨is2,v2,g2⟩:=I.sq q2;obtain⟨u1,Ta,r1⟩:=v1.get hx;obtain⟨u2,hu2,r2⟩:=v2.get hy;obtain⟨o1,e1,_,_⟩:=h1.obj;obtain⟨o2,e2,_,_⟩:=h2.obj;have lz:=aaA hz;have lI:=aaA hI;have lO:=aaA hO;have VQ:=aaA e1;have VR:=aaA e2;refine Fi D hz hI hO h1 h2 g1 g2 (by simpa using Ta) (by simpa using hu2) λh' c1 c2 c3 c4 c5 kp=>⟨_,rfl,?_⟩;refine wpAny_letOwnedTupleGo_zip c1 λS_ z2 sb=>?_;have Y7:=sb.extBut _ _ (acX lz) c5;have ZY:∀b o,b∉[z,uI,uO,i1,i2]->s.heap.get? b=some o->S_.get? b=some o:=λb o hb e=>by
   simp only[aaw,acW,or_false,not_or] at hb;exact sb.extBut _ _ hb.1 (kp b o hb.1 hb.2.2.1 hb.2.2.2.1 hb.2.2.2.2 e)
  have I2:aE X pins σ (cT H _ (.tup [x,y])) _:=I.turnNew (t':=s.toks) hf ZY (aao _) ⟨by rw[ack];simp,[u1,u2],.cons r1 (.cons r2 .nil),⟨_,Y7,rfl,_,rfl⟩,_,Y7⟩;have fr:=I.hok.fresh (aao _);refine⟨.ref _,_,I2,rfl,⟨_,x,y,rfl,fr,rfl,λzs hq=>by rw[I.sq_inj hq q1];exact hx,λzs hq=>by rw[I.sq_inj hq q2];exact hy⟩,⟨z2,?_,⟨u1,u2,?_⟩,?_,?_⟩,λb hb=>?_⟩
  ·exact sb.extBut _ _ D.TIz (kp _ _ D.TIz D.TITO D.TIi1 D.TIi2 hI)
  ·exact sb.extBut _ _ D.TOz c2
  ·exact c3.at λo e=>sb.extBut _ _ D.i1z e
  ·exact c4.at λo e=>sb.extBut _ _ D.i2z e
  ·have hn:b≠s.heap.objs.size:=by
    simp only[aaw,acW,or_false] at hb;rcases hb with rfl|rfl|rfl|rfl|rfl
    ·exact aaN lz
    ·exact aaN lI
    ·exact aaN lO
    ·exact aaN VQ
    ·exact aaN VR
   rw[aI hn];exact (hf b hb).1
 done:=by
  intro X hP hw hK hc i pins s σ H E I hf st hg;subst hP hw hK;obtain⟨hz,hI,⟨p,q,hO⟩,h1,h2⟩:=st;obtain⟨xs,ys,q1,q2,he⟩:=hg;obtain⟨is1,v1,g1⟩:=I.sq q1;obtain⟨is2,v2,g2⟩:=I.sq q2;have n1:=v1.length;have n2:=v2.length;refine Fj (I.ok.hd hc) D hz hI hO h1 h2 g1 g2 (by
   rcases he with he|he
   ·exact .inl (by simp;lia)
   ·exact .inr (by simp;lia)) λh' kp=>⟨rfl,I.turneds hf λb o hb e=>?_⟩
  simp only[aaw,acW,or_false,not_or] at hb;exact kp b o hb.1 hb.2.2.1 hb.2.2.2.1 hb.2.2.2.2 e
 self:=λ_ _ _ _ _ st h=>wpAny_pyIter_zip st.1 h
section
variable {p:Pos}{a b:aca}
def Q1:abr "zip"=some (.type "zip"):=by decide+kernel
def Xj (K:aai)(ta:TA):TI:=λσ H R=>ta σ H λvs H1=>∃l1 l2 a1 a2 xs ys,vs=[.ref a1,.ref a2]/\Fo l1 K H1 a1 xs/\Fo l2 K H1 a2 ys/\R (YA K l1 l2 a1 a2) H1
theorem Q2 {ta:TA}(hg:Gl X "zip")(hm:X.mg "zip"=none)(ha:PA X [a,b] ta)(hs:aaC [a,b] X.env=[(false,adB a X.env),(false,adB b X.env)]:=by rfl)(qN:aaC [b] X.env=[(false,adB b X.env)]:=by rfl) :
  PI X (.Tuple elts kt tp) (.Call (.Name "zip" p) [a,b] [] pos) (Xj X.K ta):=by
 intro pins s σ H R I h;refine Call_ (wZ I hg hm Q1 (adE (dE (ha pos pins s σ H _ I h) λus s1 ⟨vs,H1,I1,r1,q1⟩=>?_) (by rw[hs,qN]) (by rw[qN];rfl)));obtain⟨l1,l2,a1,a2,xs,ys,rfl,g1,g2,q⟩:=q1;cases r1 with
 |cons r rr=>
  cases rr with
  |cons r' rr=>
   cases rr;cases r;cases r';obtain⟨is1,v1,m1⟩:=I1.sq g1;obtain⟨is2,v2,m2⟩:=I1.sq g2;have lt:∀(l:Bool) (c:aaM) (zs:Array aak),iT l s1.heap c zs->c<s1.heap.objs.size:=λl c zs hq=>by
    cases l with
    |true=>obtain⟨_,e,_⟩:=hq;exact aaA e
    |false=>obtain⟨_,e,_⟩:=hq;exact aaA e
   refine Fm m1 m2 λh' z1 z2 z3 z4 z5 kp=>wpAny_pyIter_zip z1 ?_;refine⟨_,[s1.heap.objs.size+4,s1.heap.objs.size+2,s1.heap.objs.size+3,s1.heap.objs.size,s1.heap.objs.size+1],_,_,H1,rfl,I1.kept λb o e=>kp b o e,HF (zipApart_new (lt l1 a1 _ m1) (lt l2 a2 _ m2)),⟨z1,z2,⟨_,_,z3⟩,z4,z5⟩,λb hb=>?_,q⟩;have hb:s1.heap.objs.size<=b:=by
    simp only[aaw,acW,or_false] at hb;rcases hb with rfl|rfl|rfl|rfl|rfl
    ·exact acD _ _
    ·exact acD _ _
    ·exact acD _ _
    ·exact aao _
    ·exact acD _ _
   exact I1.fpOk hb (I1.hok.fresh hb)
end
noncomputable def Fp:U->Option (List U)
 | .lst us=>some us
 | .tup us=>some us
 |_=>none
noncomputable def Fq (ga:Ev->R (List U×Ev)):Ev->R (List U×Ev):=λρ=>(ga ρ).bind λx=>match x.1 with
 | [u,w]=>match Fp u,Fp w with
  |some us,some ws=>.ok (ab7 (λa b=>.tup [a,b]) us ws,x.2)
  |_,_=>.stk
 |_=>.stk
section
variable {p1:Pos}{a b:aca}{b1:Bool}{ga:Ev->R (List U×Ev)}
theorem HG (e:Fp u=some us)(h:Rp K H A u v):∃l a xs,v=.ref a/\us.length<=aah/\aS K H A us xs/\Fo l K H a xs/\∀H',eQ A H H'->(∀b,A b->Mu (H b))->Fo l K H' a xs:=by
 unfold Fp at e;split at e;rotate_right
 ·cases e
 rotate_left
 ·cases e;obtain⟨a,xs,rfl,q,l,z⟩:=h;exact⟨false,a,xs,rfl,l,z,gr.of q,λH' x mu=>gr.of (x a _ (λy=>by have:=mu a y;rw[q] at this;exact this) q)⟩
 ·cases e;obtain⟨a,xs,rfl,na,q,l,z⟩:=h;exact⟨true,a,xs,rfl,l,z,fX.of q,λH' x mu=>fX.of (x a _ na q)⟩
theorem HH (ha:DA X G [a,b] b1 false ga)(hm:X.mg "zip"=none)(hg:Gl X "zip":=by rfl)(hs:aaC [a,b] X.env=[(false,adB a X.env),(false,adB b X.env)]:=by rfl)(qN:aaC [b] X.env=[(false,adB b X.env)]:=by rfl) :
  DI X G (.Tuple elts kt tp) (.Call (.Name "zip" p1) [a,b] [] pos) b1 false (Fq ga):=⟨(Q2 hg hm ha.un hs qN).to λσ H RR h00=>by
 obtain⟨Z,A,ρ,q,f⟩:=h00;unfold Fq at f;cases e1:ga ρ with
 |stk=>rw[e1] at f;exact f.elim
 |exc=>rw[e1] at f;exact f.elim
 |ok y=>
  obtain⟨us,ρ1⟩:=y;rw[e1] at f;dsimp only[L2.R.bind] at f;refine⟨Z,A,ρ,q,?_⟩;rw[e1];intro vs H1 q1 x1 s1 vm;split at f
  ·rename_i PB ρ' e2;split at e2
   ·split at e2
    ·rename_i as bs ea eb;cases e2;have r:=vm.rps;obtain⟨v,vr,rfl,r1,r2⟩:=r;obtain⟨v',vr',rfl,r3,r4⟩:=r2;subst r4;obtain⟨l1,a1,xs,rfl,n1,z1,k1,CB⟩:=HG ea r1;obtain⟨l2,a2,ys,rfl,n2,z2,k2,lN⟩:=HG eb r3;refine⟨l1,l2,a1,a2,xs,ys,rfl,k1,k2,f _ H1 q1 x1 s1 ⟨?_,λH2 A' hx Bb=>?_⟩⟩
     ·rw[acn];exact aaR (Nat.min_le_left _ _) n1
     ·have Yd:=CB H2 hx q1.mu;have Ye:=lN H2 hx q1.mu;have w1:=z1.re q1.mu hx Bb;have w2:=z2.re q1.mu hx Bb;refine⟨λi u hu=>?_,⟨xs,ys,Yd,Ye,?_⟩⟩
      ·rw[acx] at hu;cases hA:as[i]? with
       |none=>rw[hA] at hu;cases hu
       |some ua=>cases hB:bs[i]? with
        |none=>rw[hA,hB] at hu;cases hu
        |some ub=>
         rw[hA,hB] at hu;cases hu;obtain⟨x,hx1,px⟩:=w1.get hA;obtain⟨y,hy1,py⟩:=w2.get hB;refine⟨⟨xs,ys,x,y,Yd,Ye,hx1,hy1⟩,λx' H' yl=>?_⟩;obtain⟨T,x2,y2,rfl,hT,rfl,g1,g2⟩:=yl;have ex:x2=x:=by have:=g1 xs Yd;rw[hx1] at this;cases this;rfl
         have ey:y2=y:=by have:=g2 ys Ye;rw[hy1] at this;cases this;rfl
         subst ex ey;have sm:=cF hT (.tup [x2,y2]);refine⟨sm,?_⟩;exact⟨T,_,rfl,bj,by have:aah=16777216:=rfl;rw[this];simp,aS.cons (px.same sm) (aS.cons (py.same sm) aS.nil)⟩
      ·rw[acn,←z1.length,←z2.length];rcases Nat.le_total as.length bs.length with z|z
       ·exact .inl (by rw[acf z];exact aao _)
       ·exact .inr (by rw[Nat.min_eq_right z];exact aao _)
    ·cases e2
   ·cases e2
  ·exact f.elim⟩
end
end L2
namespace L2
section
variable {e:aca}{p1 p3 p4:Pos}{b1:Bool}{m1 m:Md}{g1:Ev->R (U×Ev)}{v:Option aca}{w:Option aca}
theorem BG {g:Ev->SR}(h:∀ρ,∃c u,g ρ=.exc c u)(hW:∀H,¬G.W H:=by exact λ_ h=>h):DS X G m (.Raise v w pos) g:=⟨λpins s σ H D I h00=>by
 obtain⟨Z,A,ρ,q,f⟩:=h00;obtain⟨c,u,e⟩:=h ρ;rw[e] at f;exact absurd (f H q.bas) (hW H)⟩
end
end L2
section
set_option maxHeartbeats 400000
namespace L2
open PySem PySem.Spec PyProof.Rows PySem.W
structure Xk (K:Frag)(C:aaM):Prop where
 cls:(clsIn K C).isSome=true
 ga:findIn K (.ref C) "__getattribute__"=some (some (.builtin "BaseException.__getattribute__"))
 gn:findIn K (.ref C) "__getattr__"=some none
 cl:findIn K (.ref C) "__class__"=some (some (.builtin "object.__class__"))
 gt:specialIn K (.builtin "object.__class__") "__get__"=some (some (.builtin "getset_descriptor.__get__"))
 tk:takesIn K (.builtin "object.__class__")=some true
 ob:mroIn K C (.type "object")=some true
 be:mroIn K C (.type "BaseException")=some true
def N3 (x C:aaM)(h:acP):Prop:=∃ox,h.get? x=some ox/\ox.cls=.ref C
section
variable {w:abq}{A:aba}{K:Frag}{x C:aaM}
open Builtin Builtin.ObjectAttr Builtin.Getset_descriptor in
end
end L2
end
section
set_option maxHeartbeats 400000
namespace L2
open PySem PySem.Spec PyProof.Rows PySem.W
structure V_ (P:acC)(w:abq)(outer:List Env)(H:Hp)(s:aaD)(B:acP)(H1:Hp)(r:acP)(L:aaM):Prop where
 un:Un (vJ outer) [] H H1 s.heap r
 hok:jn P w H1 r
 kB:∀b o,r.get? b=some o->b∉vJ outer->b≠L->B.get? b=some o
 nL:s.heap.get? L=none
 hL:H1 L=none
 fr:∀b∈vJ outer,H b=none/\∃o,s.heap.get? b=some o/\∀vs,o.data≠.fields vs
def BH (P:acC)(w:abq)(C:aaM):CXT:=λouter H s E e s'=>∃(ea t L:aaM) (B r:acP) (H1:Hp),e=.ref ea/\s'.os=s.os/\afN s'.gens/\V_ P w outer H s B H1 r L/\Heap.FlyingW B outer ea (.ref C) (.ref t) s'.heap/\r.UpToSlots s'.heap/\r.get? ea=none/\E (.ref C) none H1
theorem jn.keptT {w:abq}(x:jn P w H h)(k:∀b u o,H b=some o->h.get? b=some u->h'.get? b=some u):jn P w H h':=λa o e=>
 (x a o e).stay (λb u hb q=>by
  rcases hb with rfl|hb
  ·exact k _ _ _ e q
  ·exact k _ _ _ hb q) (λ_ q=>q) λ_ _ q=>q
section
variable {w:abq}{outer:List Env}{B r:acP}{L:aaM}
theorem V_.there (F:V_ P w outer H s B H1 r L)(k:B.StaysIn h)(u:r.UpToSlots h):Un (vJ outer) [] H H1 s.heap h/\jn P w H1 h:=by
 have Vw:∀b o,s.heap.get? b=some o->b≠L:=λb o e z=>by rw[z,F.nL] at e;cases e
 have Y8:∀b o,s.heap.get? b=some o->b∈vJ outer->∃sl,h.get? b=some {o with slots:=sl}:=λb o e hb=>by
  obtain⟨hn,o',e',nf⟩:=F.fr b hb;rw[e] at e';cases e';obtain⟨sl,q⟩:=F.un.slot b o e hn hb (by simp);obtain⟨sl',q'⟩:=u b _ q (λvs z=>nf vs z);exact⟨sl',q'⟩
 refine⟨⟨λb o e n hb hx=>k b o (F.kB b o (F.un.keep b o e n hb hx) hb (Vw b o e)),λb o e n hb hx=>Y8 b o e hb,F.un.free,λb o e hx=>?_,F.un.tups,F.un.frzs,F.un.tbls⟩,F.hok.keptT λb v o e q=>?_⟩
 ·by_cases hb:b∈vJ outer
  ·obtain⟨sl,q⟩:=Y8 b o e hb;exact⟨_,q⟩
  ·obtain⟨o',q⟩:=F.un.there b o e hx;exact⟨o',k b o' (F.kB b o' q hb (Vw b o e))⟩
 ·refine k b v (F.kB b v q (λhb=>?_) λz=>by rw[z,F.hL] at e;cases e);obtain⟨hn,o',e',_⟩:=F.fr b hb;rw[F.un.free b o' e' hn (by simp)] at e;cases e
end
section
variable {B r:acP}{L:aaM}
theorem aE.fly {t':Nat}{d':Drawn}(I:aE X pins σ H s)(F:V_ X.prog X.w X.stack H s B H1 r L)(k:B.StaysIn h)(u:r.UpToSlots h)(hg:afN g'):aE X pins σ H1 {s with heap:=h,gens:=g',drawn:=d',toks:=t'}:=by
 obtain⟨a,b⟩:=F.there k u;exact I.call a b hg λ_ z=>absurd z (by simp)
end
section
variable {a b:Str}{e:aca}{p1 p3:Pos}{j1 j2:Nat}
def ZE (te:TE):TE:=λσ H Q=>te σ H λx H1=>∃i:Int,x=.int i/\i.natAbs.log2<1920/\(Str.ofString (toString i)).length<=1000/\∀y:Str,Q (.str y) H1
theorem N4 (he:PE X e te)(ha:(Str.empty++a).length<=1000:=by decide+kernel)(hb:b.length<=1000:=by decide+kernel)(hs:(evalEach [Expr.Constant (.str b) j2 p3] X.env)=[adB (.Constant (.str b) j2 p3) X.env]:=by rfl):PE X (.JoinedStr [.Constant (.str a) j1 p1,.FormattedValue e (-1) none p2,.Constant (.str b) j2 p3] pos) (ZE te):=by
 intro pins s σ H Q I h;have big:(3000:Nat)<=aah:=by decide
 refine JoinedStr_many ?_;refine joinParts_cons (Calls.Constant_str ?_);refine⟨aaR ha (aaR (by decide) big),joinParts_cons (FormattedValue_plain ?_)⟩;refine dE (he pins _ σ H _ (I.tok _) h) λv s1 ⟨x,H1,I1,rx,i,ex,sm,li,q⟩=>?_;subst ex;obtain⟨tk,rfl⟩:=rx;refine formatField_int_small sm ?_;refine⟨?_,joinParts_cons (Calls.Constant_str ?_)⟩
 ·rw[afm];exact aaR (ae1 ha li) (aaR (by decide) big)
 ·refine⟨?_,joinParts_nil ?_ ?_⟩
  ·rw[afm,afm];exact aaR (ae1 (ae1 ha li) hb) (aaR (by decide) big)
  ·exact⟨.str _,H1,I1.tok _,⟨_,rfl⟩,q _⟩
  ·rw[afm,afm];exact aaR (ae1 (ae1 ha li) hb) (aaR (by decide) big)
end
end L2
end
section
set_option maxHeartbeats 400000
namespace L2
open PySem PySem.Spec PyProof.Rows PySem.W
abbrev zF:List aak:=[.type "ValueError",.type "Exception",.type "BaseException",.type "object"]
theorem Mi {K:Frag}{C:aaM}{Y9:List aak}{PF:String}(X:K.In h)(q:excIn K C Y9 PF=true) :
  ∃bm N nm qn bs hdct sn sub ab col dd k0 k1 k2 k3 k5 mN,h.get? C=some (excClassObj nm qn C N bs bm hdct sn sub ab col dd k0 k1 k2 k3 k5 PF)/\h.Ns N mN/\mN "__init__"=none/\OwnTail h Y9 bm:=by
 unfold excIn at q;split at q
 ·rename_i d1 cd sl ho;split at q
  ·rename_i C' bm k0 k1 k2 k3 n k5 hm hs;simp only[aau,beq_iff_eq,af1] at q;obtain⟨⟨⟨⟨⟨e1,e2⟩,hdel⟩,ht⟩,hok⟩,hni⟩:=q;subst e1;subst e2;obtain⟨nm,bs,mro,ns,qn,hd,sn,sub,ab,col,del⟩:=cd;subst hm;subst hdel;have ZZ:sl=#[k0,k1,k2,k3,some (.builtin n),k5]:=by
    obtain⟨l⟩:=sl;simp only at hs;rw[hs]
   subst ZZ;exact⟨bm,ns,nm,qn,bs,hd,sn,sub,ab,col,d1,k0,k1,k2,k3,k5,_,X _ _ ho,.of_isNs (isNs_of_in X hok),nsMap_none_of_in X hok hni,tail_of_in X ht⟩
  ·cases q
 ·cases q
section
variable {w:abq}{K:Frag}{base:acP}{cA:aak}{A:aba}{outer:List Env}{s0:aaD}{H0:Hp}{E:XK}{C:aaM}
theorem Fs {e:aaM}{vs:List aak}(I:aE (gG (BH P w C) P w K mg base N qual scope f cA A outer s0 H0 E) pins σ H s)(hm:Heap.MadeExcOf s.heap h' e (.ref C) vs)(hE:E (.ref C) none H)(nL:s0.heap.get? s0.heap.objs.size=none:=by exact Heap.get?_none_of_le (aao _)):(gG (BH P w C) P w K mg base N qual scope f cA A outer s0 H0 E).xe (.ref e) {s with heap:=h'}:=by
 let env:=ac5 qual scope s0.heap.objs.size f cA
 have gj:=I.stack;have yL:∀en∈(env::outer),∀a,en.frame=some a->a∈vJ _:=λen he a ha=>afI.mpr ⟨en,he,ha⟩;refine wpAny_leaves_madeW I.ok.frames rfl (λb o q=>of_hideAll _ q) (funFrames_hide gj yL) hm λh2 t fl tp nt up=>?_;refine⟨e,t,s0.heap.objs.size,_,s.heap,H,rfl,I.os,I.bare,⟨I.base,I.hok,λb o q nb nl=>hideAll_get _ q λz=>?_,nL,I.free,λb hb=>⟨I.ok.frf b hb,?_⟩⟩,fl,(Heap.UpToSlots.of_keeps hm.keeps).trans up,hm.new,hE⟩
 ·rcases aaw.mp z with z|z
  ·exact nl z
  ·exact nb z
 ·exact (I.ok.funs.mem hb).2
variable {np cpos:Pos}{e0:aca}{t:TA}
def Q3 (C:aaM)(E:XK)(t:TA):TS:=λ_ σ H=>t σ H λxs H1=>xs.length<=aah/\E (.ref C) none H1
theorem HJ (hx:mg x=some (.ref C))(hq:excIn K C zF "ValueError.__new__"=true)(hh:A.handled=none)
  (ha:PA (gG (BH P w C) P w K mg base N qual scope f cA A outer s0 H0 E) [e0] t) (hg:Gl (gG (BH P w C) P w K mg base N qual scope f cA A outer s0 H0 E) x:=by rfl) (hd:(x==("__debug__":Str))=false:=by decide)
  (he:aaC [e0] (ac5 qual scope s0.heap.objs.size f cA)=(false,adB e0 (ac5 qual scope s0.heap.objs.size f cA))::aaC [] (ac5 qual scope s0.heap.objs.size f cA):=by rfl) :
  PS (gG (BH P w C) P w K mg base N qual scope f cA A outer s0 H0 E) (.Raise (some (.Call (.Name x np) [e0] [] cpos)) none pos) (Q3 C E t):=by
 intro pins s σ H D I h;obtain⟨tl,NN,nm,q,bs,hdct,sn,sub,ab,col,dd,k0,k1,k2,k3,k5,mN,hC,hN,hni,T⟩:=Mi I.ok.mod.kin hq;have FB:=F.excBase_ValueError;refine wpAny_Raise_call_subU (nm:=nm) (q:=q) (N:=NN) (bs:=bs) (hdct:=hdct) (sn:=sn) (sub:=sub) (ab:=ab) (col:=col) (dd:=dd) (k0:=k0) (k1:=k1) (k2:=k2) (k3:=k3) (k5:=k5) FB FB.hasB FB (T.hasType FB.hasBase) hh ?_ hni (mS I hg hx ⟨rfl,?_⟩ hd)
 ·show (acq cpos (aaC [e0] (ac5 qual scope _ f cA))).any (·.1)=false;rw[he];rfl
 ·show aaW _ _ (evalArgs (.ref C) true (acq cpos (aaC [e0] (ac5 qual scope _ f cA))) []) _ _ _;have h1:=ha cpos pins s σ H _ I h;have Gg:aaC [e0] (gG (BH P w C) P w K mg base N qual scope f cA A outer s0 H0 E).env=(false,adB e0 _)::aaC [] _:=he;rw[Gg] at h1;rw[he];refine ad1 (dE h1 λus s2 ⟨xs,H2,I2,r2,l2,hE⟩=>?_);have kk:=λb o z=>(I2.bs b o z).1;exact⟨rfl,by rw[←r2.length];exact l2,kk _ _ hC,hN.keeps kk,T.keeps kk,λh' e hm=>Fs I2 hm hE⟩
end
end L2
end
section
set_option maxHeartbeats 400000
namespace L2
open PySem PySem.Spec PyProof.Rows
structure Up (k:Nat)(A:aba):Prop where
 dp:A.depth+3*k+5<recursionLimit
 un:A.units+16*k+200<abI
structure YB (P:acC)(w:abq)(K:aai)(mg:Str->Option aak)(base:acP)(CX:CXT)(k:Nat)(f:aaM)(fd:adA)(ps:List Str)(sp:Sp):Prop where
 len:∀vs H Q E,sp vs H Q E->vs.length=ps.length
 run:∀(A:aba) (outer:List Env) (s:aaD) (H:Hp) (args:Args) (us:List aak) (vs:List V) (Q:VK) (E:XK),Up k A->GH P w K mg base A outer s H->BindsTo s fd args (ps.zip us)->aV vs us->sp vs H Q E->
  codeAny (aa1 P w) A (.call (.ref f) args) (CR CX outer P w H s Q E) s
noncomputable def Uq (ea C:aaM):HO:=.ext (N3 ea C)
theorem Mj {w:abq}{ea C:aaM}(x:N3 ea C h):cP P w H h ea (Uq ea C):=by
 obtain⟨ox,e,c⟩:=id x;exact⟨x,⟨ox,e⟩,λh1 h2 ⟨o,e1,c1⟩ k=>⟨o,k o e1,c1⟩⟩
end L2
end
section
set_option maxHeartbeats 400000
namespace L2
open PySem PySem.Spec PyProof.Rows PySem.W
theorem HK {w:abq}{o:HO}(x:cP P w H h a o):∃ob,h.get? a=some ob:=by
 cases o with
 |lst xs=>obtain⟨_,_,_,_,e⟩:=x;exact⟨_,e⟩
 |tup xs=>obtain⟨_,_,_,_,_,e⟩:=x;exact⟨_,e⟩
 |dK aX=>obtain⟨_,_,_,_,o,_,_,e,_⟩:=x;exact⟨_,e⟩
 |dT aX=>obtain⟨_,_,_,_,o,_,_,e,_⟩:=x;exact⟨_,e⟩
 |set S n=>obtain⟨o,_,_,_,e,_⟩:=x;exact⟨_,e⟩
 |ins C dx fs=>obtain⟨_,_,_,e,_⟩:=x;exact⟨_,e⟩
 |own y=>exact x
 |xd fs=>obtain⟨_,⟨_,_,_,e,_⟩,_⟩:=x;exact⟨_,e⟩
 |rng lo hi=>obtain⟨_,_,_,e⟩:=x;exact⟨_,e⟩
 |frz ob u=>obtain⟨e,_⟩:=x;exact⟨_,e⟩
 |tbl ps=>exact⟨_,(x)⟩
 |met f y=>exact⟨_,(x)⟩
 |ext φ=>obtain⟨_,e,_⟩:=x;exact e
section
variable {s1:aaD}{ea C:aaM}
theorem aE.track {o:HO}(I0:aE X pins σ H s)(n0:s.heap.get? ea=none)(I:aE X pins σ H1 s1)(n1:H1 ea=none)(x:cP X.prog X.w (cT H1 ea o) s1.heap ea o):aE X pins σ (cT H1 ea o) s1:=by
 have ne:∀b ob,s.heap.get? b=some ob->b≠ea:=λb ob e z=>by rw[z,n0] at e;cases e
 have Z0:∀b ob,X.s₀.heap.get? b=some ob->b∉X.ex->b≠ea:=λb ob e hx=>by
  obtain⟨o',e'⟩:=I0.base.there b ob e hx;exact ne b o' e'
 have VS:∀{b u},H1 b=some u->b≠ea:=λ{b u} e z=>by rw[z,n1] at e;cases e
 refine⟨I.ok,I.os,I.bare,⟨I.base.keep,I.base.slot,λb ob e n hx=>?_,I.base.there,λb xs e=>?_,λb ob u e=>?_,λb ps e=>?_⟩,I.loc,I.cell,?_,λy c e=>?_,λp hp=>?_,λb u e=>?_,I.len⟩
 ·rw[aI (Z0 b ob e hx)];exact I.base.free b ob e n hx
 ·have q:=I.base.tups b xs e;rw[aI (VS q)];exact q
 ·have q:=I.base.frzs b ob u e;rw[aI (VS q)];exact q
 ·obtain⟨m,q⟩:=I.base.tbls b ps e;exact⟨m,by rw[aI (VS q)];exact q⟩
 ·obtain⟨m,⟨oL,_,_,hL,_⟩,_⟩:=I0.loc;rw[aI (ne _ _ hL)];exact I.free
 ·obtain⟨v,oc,hc,_⟩:=I0.cell y c e;rw[aI (ne _ _ hc)];exact I.freeC y c e
 ·obtain⟨e,n,r⟩:=I.pin p hp;have e0:=(I0.pin p hp).1;exact⟨e,by rw[aI (ne _ _ e0)];exact n,r⟩
 ·by_cases hb:b=ea
  ·subst hb;rw[bj] at e;cases e;exact x
  ·rw[aI hb] at e;exact (I.hok b u e).stay (λc v _ q=>q) (λc q=>by rw[aI (VS q)];exact q) λc xs q=>by rw[aI (VS q)];exact q
noncomputable abbrev Cx.hand (X:Cx)(e:aak):Cx:={X with A:=X.A.mark (some e),calm:=false,xe:=λ_ _=>False}
def aE.hand (I:aE X pins σ H s)(e:aak):aE (X.hand e) pins σ H s:=
 ⟨⟨I.ok.mod,I.ok.kind,I.ok.glob,I.ok.blt,I.ok.above,I.ok.inj,I.ok.has,I.ok.cab,λz=>absurd z aaz,I.ok.frames,I.ok.stk,I.ok.exf,I.ok.bs,I.ok.bsz,I.ok.noex,I.ok.exfs,I.ok.funs,I.ok.frf⟩,I.os,I.bare,I.base,I.loc,I.cell,I.free,I.freeC,I.pin,I.hok,I.len⟩
def aE.unhand {e:aak}(I0:X.Ok)(I:aE (X.hand e) pins σ H s):aE X pins σ H s:=⟨I0,I.os,I.bare,I.base,I.loc,I.cell,I.free,I.freeC,I.pin,I.hok,I.len⟩
end
section
variable {C cc:aaM}{g cn n:Str}{p cp rp np hpos:Pos}{a:aca}{as:List aca}{b0:aeO}{suite:List aeO}{ta:TA}{th:TS}
theorem Ml {h0:ExceptHandler}{hs:List ExceptHandler}(hb:vc X.nox body tb):PS X (.Try body (h0::hs) [] [] pos) tb:=by
 intro pins s σ H D I h;refine wpAny_Try_except (abk (hb pins s σ H D (I.wish _) h) (λfl s1 q=>?_) λ_ _ z=>z.elim);cases fl with
 |next=>exact aes q.unwish
 |brk=>exact q.unwish
 |cont=>exact q.unwish
 |ret u=>exact q.unwish
end
end L2
end
section
set_option maxHeartbeats 400000
namespace L2
open PySem PySem.Spec PyProof.Rows PySem.W
structure ZF (K:Frag)(mg:Str->Option aak)(C:aaM)(x:Str)(ms:List (Str×Bool)):Prop where
 cls:mg x=some (.ref C)
 exc:excIn K C zF "ValueError.__new__"=true
 ec:Xk K C
 card:∃c,mg "CardError"=some (.ref c)/\exmOne K (.ref C) (.ref c)=some true
 ve:kitOne K (.ref C) (.type "ValueError")=some true
 zve:mg "ValueError"=none
 marks:∀p∈ms,∃c,mg p.1=some (.ref c)/\kitOne K (.ref C) (.ref c)=some p.2
def Wa (K:Frag)(n:Nat)(C:aaM)(p:List U->Prop):Sp:=λvs H _ E=>∃us A,aS K H A us vs/\(∀a,A a->Mu (H a))/\us.length=n/\p us/\∀H',aJ H H'->E (.ref C) none H'
theorem Ft {K:Frag}{A0:aaM->Prop}(r:aS K H A0 us vs)(mu:∀a,A0 a->Mu (H a))(yP:G.io=false)(i4:∀i,i<us.length->G.is i=false):cL K G ⟨A0,H,0⟩ A0 (dG N.length us) (start N vs) H where
 slot:=λi u hu=>by
  have hu:=jx hu;obtain⟨v,h1,h2⟩:=r.get hu;refine⟨v,i_ h1,?_⟩;rw[hZ (by rw[i4 i (aap.mp hu).1];exact aaz)];exact h2
 dis:=λi j u w a ci cj ne hi hj si sj=>by
  rw[i4 i (aap.mp (jx hi)).1] at ci;cases ci
 mu:=mu
 sup:=λa h=>h
 out:=λa h=>.inl h
 bas:=λa o h=>h
 io0:=λh=>by rw[yP] at h;cases h
 len:=xx r.length
def aJ.updN {o:HO}(h:aJ H H')(n:H' a=none):aJ H (cT H' a o):=λb ob e=>by
 have q:=h b ob e;rw[aI (bX q n)];exact q
def Mm {m:Md}{h0:ExceptHandler}{hs:List ExceptHandler}{g:Ev->SR}(h:xt X.nox G m body g):DS X G m (.Try body (h0::hs) [] [] pos) g:=⟨Ml h.un⟩
end L2
end
namespace L2
def nr {α:Sort _}{a b:α}(h:a=b):a=b:=h
noncomputable def Ur (o:Option (Option U))(ρ:Ev):R (U×Ev):=match o with
 |some (some u)=>.ok (u,ρ)
 |_=>.stk
noncomputable def YC (u:U)(ρ:Ev):R (Bool×Ev):=match u with
 | .bl c=>.ok (c,ρ)
 |_=>.stk
noncomputable def Wb (o:Option U):R U:=match o with
 |some u=>.ok u
 |none=>.stk
noncomputable def SR.seq (r:SR)(g:Ev->SR):SR:=match r with
 | .nx ρ=>g ρ
 |r=>r
noncomputable def SR.turn (r:SR)(g:Ev->SR):SR:=match r with
 | .nx ρ=>g ρ
 | .ct ρ=>g ρ
 | .bk ρ=>.nx ρ
 |r=>r
noncomputable def Fu (m:Md)(r:SR):R U:=match r with
 | .rt u _=>.ok u
 | .nx _=>if m=.S then .ok .non else .stk
 | .exc c u=>.exc c u
 |_=>.stk
noncomputable def io0 (u:U)(o:Option (Option U)):R (U×U):=match o with
 |some (some w)=>.ok (u,w)
 |_=>.stk
noncomputable def Q4 (r:SR):R (U×U):=match r with
 | .rt u ρ=>io0 u ρ[0]?
 | .nx ρ=>io0 .non ρ[0]?
 | .exc c u=>.exc c u
 |_=>.stk
section
variable {w:U}{α β:Type}{g g1 g2 g3:Ev->R (U×Ev)}{h h1 h2:Ev->R (Bool×Ev)}{s s1 s2:Ev->SR}{ga:Ev->R (List U×Ev)}{m:Md}{ws:List U}
def N5:ae i ρ=Ur ρ[i]? ρ:=nr rfl
def HL:Ur (some (some u)) ρ=.ok (u,ρ):=nr rfl
def YD:gC u ρ=.ok (u,ρ):=nr rfl
def Fv {a:α}{f:α->R β}:(R.ok a).bind f=f a:=nr rfl
def C9 {a:α}{f:α->SR}:SR.of (R.ok a) f=f a:=nr rfl
def Us {p:U->U->R U}:bb p g1 g2 ρ=(g1 ρ).bind λx=>(g2 x.2).bind λy=>(p x.1 y.1).bind λz=>.ok (z,y.2):=nr rfl
def YE:gB g ρ=(g ρ).bind λx=>YC x.1 x.2:=nr rfl
def N7 {c:Bool}:YC (.bl c) ρ=.ok (c,ρ):=nr rfl
def HM:Hd h1 h2 ρ=(h1 ρ).bind λx=>if x.1=true then h2 x.2 else .ok (false,x.2):=nr rfl
def N8:T_ h1 h2 ρ=(h1 ρ).bind λx=>if x.1=true then .ok (true,x.2) else h2 x.2:=nr rfl
def HN:zh h ρ=(h ρ).bind λx=>.ok (!x.1,x.2):=nr rfl
def N9:Hg g1 g2 ρ=(gB g1 ρ).bind λx=>if x.1=true then g2 x.2 else .ok (.bl false,x.2):=nr rfl
def Ut:W4 g1 g2 ρ=(gB g1 ρ).bind λx=>if x.1=true then .ok (.bl true,x.2) else g2 x.2:=nr rfl
def Uv {p:U->R U}:V4 p g ρ=(g ρ).bind λx=>(p x.1).bind λz=>.ok (z,x.2):=nr rfl
def HP:ao ρ=.ok ([],ρ):=nr rfl
def Dd:af g ga ρ=(g ρ).bind λx=>(ga x.2).bind λy=>.ok (x.1::y.1,y.2):=nr rfl
def HQ:eC ga ρ=(ga ρ).bind λx=>if x.1.length<=aah then .ok (.tup x.1,x.2) else .stk:=nr rfl
def HU:dI ga ρ=(ga ρ).bind λx=>if x.1.length<=aah then .ok (.lst x.1,x.2) else .stk:=nr rfl
def Uw {p:List U->R U}:gq p ga ρ=(ga ρ).bind λx=>(p x.1).bind λz=>.ok (z,x.2):=nr rfl
def Ux {f:List U->R U}:eR n f ga ρ=(ga ρ).bind λx=>(sP n f x.1).bind λz=>.ok (z,x.2):=nr rfl
def Ob {f:List U->R α}(h:us.length=n):sP n f us=f us:=h9 h
noncomputable def YG (n:Nat)(f:List U->R (U×U))(us:List U)(i:Nat)(ρ:Ev)(o:Option (Option U)):R (U×Ev):=match o with
 |some (some u0)=>(sP n f (u0::us)).bind λz=>.ok (z.1,ρ.set i (some z.2))
 |_=>.stk
def Oc {f:List U->R (U×U)}:YG n f us i ρ (some (some u))=(sP n f (u::us)).bind λz=>.ok (z.1,ρ.set i (some z.2)):=nr rfl
noncomputable def De (o:Option (Option U)):Bool:=match o with
 |some (some _)=>true
 |_=>false
def Dg:De (some (some u))=true:=nr rfl
def Uy {f:List U->R (U×U)}:m7 n i f ga ρ=if De ρ[i]? = true then (ga ρ).bind λx=>YG n f x.1 i x.2 x.2[i]? else .stk:=nr rfl
noncomputable def Xl (i:Nat)(p:U->List U->R (U×U))(us:List U)(ρ:Ev)(o:Option (Option U)):R (U×Ev):=match o with
 |some (some u0)=>(p u0 us).bind λz=>.ok (z.1,ρ.set i (some z.2))
 |_=>.stk
def Od {p:U->List U->R (U×U)}:Xl i p us ρ (some (some u))=(p u us).bind λz=>.ok (z.1,ρ.set i (some z.2)):=nr rfl
noncomputable def YH (T:String)(i:Nat)(p:U->List U->R (U×U))(ga:Ev->R (List U×Ev))(ρ:Ev)(o:Option (Option U)):R (U×Ev):=match o with
 |some (some u1)=>if E1 u1 T=true then (ga ρ).bind λx=>Xl i p x.1 x.2 x.2[i]? else .stk
 |_=>.stk
def Oe {T:String}{p:U->List U->R (U×U)}:YH T i p ga ρ (some (some u))=if E1 u T=true then (ga ρ).bind λx=>Xl i p x.1 x.2 x.2[i]? else .stk:=nr rfl
def YI {T:String}{p:U->List U->R (U×U)}:gM T i p ga ρ=YH T i p ga ρ ρ[i]? := nr rfl
def HV:E1 (.lst us) "list"=true:=nr rfl
def Dh:cW ρ=.ok (none,ρ):=nr rfl
noncomputable def YJ (u:U)(ρ:Ev):R (Option Int×Ev):=match u with
 | .int i=>.ok (some i,ρ)
 |_=>.stk
def Of {k:Int}:YJ (.int k) ρ=.ok (some k,ρ):=nr rfl
def Di:bY g ρ=(g ρ).bind λx=>YJ x.1 x.2:=nr rfl
def Uz {p:U->Option Int->Option Int->R U}{lo hi:Ev->R (Option Int×Ev)}:lY p g lo hi ρ=(g ρ).bind λx=>(lo x.2).bind λl=>(hi l.2).bind λh=>(p x.1 l.1 h.1).bind λz=>.ok (z,h.2):=nr rfl
def HX:cQ ρ=.nx ρ:=nr rfl
def HZ:aH s1 s2 ρ=(s1 ρ).seq s2:=nr rfl
def H9:(SR.nx ρ).seq s=s ρ:=nr rfl
def H_:(SR.rt u ρ).seq s=.rt u ρ:=nr rfl
def Ic:m9 g ρ=SR.of (g ρ) λx=>.nx x.2:=nr rfl
def Og:bT g ρ=SR.of (g ρ) λx=>.rt x.1 x.2:=nr rfl
def Ie:aY i g ρ=SR.of (g ρ) λx=>.nx (x.2.set i (some x.1)):=nr rfl
def Oi:oO h s1 s2 ρ=SR.of (h ρ) λx=>if x.1=true then s1 x.2 else s2 x.2:=nr rfl
noncomputable def YK (i j:Nat)(ρ:Ev)(o:Option (Option U)):SR:=match o with
 |some (some u)=>.nx ((ρ.set j none).set i (some u))
 |_=>.stk
def Ig:sQ i j ρ=YK i j ρ ρ[j]? := nr rfl
def Oj:YK i j ρ (some (some u))=.nx ((ρ.set j none).set i (some u)):=nr rfl
noncomputable def UB (i:Nat)(v k:U)(ρ:Ev)(o:Option (Option U)):SR:=match k with
 | .int k=>match o with
  |some (some (.lst us))=>match EN us.length k with
   |some j=>.nx (ρ.set i (some (.lst (us.set j v))))
   |none=>.stk
  |_=>.stk
 |_=>.stk
def Ii:vX i g1 g2 ρ=SR.of (g1 ρ) λx=>if De x.2[i]? = true then SR.of (g2 x.2) λy=>UB i x.1 y.1 y.2 y.2[i]? else .stk:=nr rfl
def Om {k:Int}(h:EN us.length k=some j):UB i w (.int k) ρ (some (some (.lst us)))=.nx (ρ.set i (some (.lst (us.set j w)))):=by
 unfold UB;dsimp only;rw[h]
def Ik {gi:Ev->R (List U×Ev)}{sg:U->Ev->R Ev}:fm gi sg s ρ=SR.of (gi ρ) λx=>d6 sg s x.1 x.2:=nr rfl
def xI {sg:U->Ev->R Ev}:d6 sg s [] ρ=.nx ρ:=nr rfl
def nB:d6 sg s (u::us) ρ=SR.of (sg u ρ) λρ1=>(s ρ1).turn (d6 sg s us):=nr rfl
def Dk:(SR.nx ρ).turn s=s ρ:=nr rfl
def xJ:fi h s (n+1) ρ=SR.of (h ρ) λx=>if x.1=true then (s x.2).turn (fi h s n) else .nx x.2:=nr rfl
noncomputable def vq (u:U)(ρ:Ev):R (List U×Ev):=match u with
 | .lst us=>.ok (us,ρ)
 | .tup us=>.ok (us,ρ)
 | .scr us=>.ok (us,ρ)
 |_=>.stk
def Il:fj g ρ=(g ρ).bind λx=>vq x.1 x.2:=nr rfl
def xK:vq (.lst us) ρ=.ok (us,ρ):=nr rfl
def BI:vq (.tup us) ρ=.ok (us,ρ):=nr rfl
noncomputable def Mn (us:List U)(ρ:Ev):R (List U×Ev):=match us with
 | [.int j]=>if -1000000<=j/\j<=1000000 then .ok (aP 0 j.toNat,ρ) else .stk
 |_=>.stk
def Io:fB ga ρ=(ga ρ).bind λx=>Mn x.1 x.2:=nr rfl
def Q5 {k:Int}:Mn [.int k] ρ=if -1000000<=k/\k<=1000000 then .ok (aP 0 k.toNat,ρ) else .stk:=nr rfl
noncomputable def Iq (us:List U)(ρ:Ev):R (U×Ev):=match us with
 | [.int j]=>if zx 0 j=true then .ok (.lst (aP 0 (j-0).toNat),ρ) else .stk
 |_=>.stk
noncomputable def Ir (us:List U)(ρ:Ev):R (U×Ev):=match us with
 | [.int j]=>if zx 0 j=true then .ok (.tup (aP 0 (j-0).toNat),ρ) else .stk
 |_=>.stk
def Iu:zy ga ρ=(ga ρ).bind λx=>Iq x.1 x.2:=nr rfl
def Iv:vY ga ρ=(ga ρ).bind λx=>Ir x.1 x.2:=nr rfl
theorem Oq {k:Int}(h0:0<=k)(h1:k<=1000000):zx 0 k=true:=by
 unfold zx;simp only[aau,decide_eq_true_eq];lia
theorem xM (n:Nat)(h:n<=1000000):Iq [.int n] ρ=.ok (.lst (aP 0 n),ρ):=by
 unfold Iq;dsimp only;rw[h9 (Oq (by lia) (by lia)),show ((n:Int)-0).toNat=n by lia]
theorem jE (n:Nat)(h:n<=1000000):Ir [.int n] ρ=.ok (.tup (aP 0 n),ρ):=by
 unfold Ir;dsimp only;rw[h9 (Oq (by lia) (by lia)),show ((n:Int)-0).toNat=n by lia]
theorem g9 (n:Nat)(h:n<=1000000):Mn [.int n] ρ=.ok (aP 0 n,ρ):=by
 rw[Q5,h9 (by lia)];rfl
def Ot {gi:Ev->R (List U×Ev)}{js:List (Option Nat)}{sg:U->Ev->R Ev}:f6 gi js sg h g ρ=(gi ρ).bind λx=>(yO (xw js sg h g x.2) x.1).bind λys=>.ok (.lst ys,x.2):=nr rfl
def Ou {G:Gm}{gi:Ev->R (List U×Ev)}{js:List (Option Nat)}{sg:U->Ev->R Ev}:zj G gi js sg h g ρ=(gi ρ).bind λx=>(qW G js sg h g x.1 x.2).bind λy=>.ok (.lst y.1,y.2):=nr rfl
def Ov {js:List (Option Nat)}{sg:U->Ev->R Ev}:xw js sg h g ρ u=(sg u (i9 js ρ)).bind λρi=>(h ρi).bind λc=>if c.1=true then (g ρi).bind λy=>.ok (some y.1) else .ok none:=nr rfl
def Q7:qW G js sg h g (u::us) ρ=(sg u (i9 js ρ)).bind λρi=>(h ρi).bind λc=>if c.1=true then (g c.2).bind λy=>(qW G js sg h g us (wb G js y.2 ρ)).bind λr=>.ok (y.1::r.1,r.2) else qW G js sg h g us (wb G js c.2 ρ):=nr rfl
def Iy:cR ρ=.ok (true,ρ):=nr rfl
def Ox:bB i u ρ=.ok (ρ.set i (some u)):=nr rfl
def UD:QR ρ=.ok (.dct [] [],ρ):=nr rfl
def Iz:dF m n s us=Fu m (s (dG n us)):=nr rfl
def Dq:Fu m (.rt u ρ)=.ok u:=nr rfl
def IA:zo n s us=Q4 (s (dG n us)):=nr rfl
def Dr:Q4 (.rt u ρ)=io0 u ρ[0]? := nr rfl
def Oy:io0 u (some (some w))=.ok (u,w):=nr rfl
def zG {ρ:Ev}:i9 [] ρ=[]:=nr rfl
def wc {js:List (Option Nat)}:i9 (none::js) ρ=none::i9 js ρ:=nr rfl
theorem wd {js:List (Option Nat)}:i9 (some j::js) ρ=(ρ[j]?).getD none::i9 js ρ:=by
 unfold i9;rw[aag];dsimp only;cases ρ[j]? <;> rfl
end
section
variable {i j k:Int}{ws:List U}{w:U}{lo:Option Int}
def IB:cB (.int i) (.int j)=.ok (.int (i+j)):=nr rfl
def IC:cB (.tup us) (.tup ws)=if us.length+ws.length<=aah then .ok (.tup (us++ws)) else .stk:=nr rfl
def ID:cB (.lst us) (.lst ws)=if us.length+ws.length<=aah then .ok (.lst (us++ws)) else .stk:=nr rfl
def Oz:E4 (.int i) (.int j)=.ok (.int (i-j)):=nr rfl
def IE:d7 (.int i) (.int j)=if jy i j=true then .ok (.int (i*j)) else .stk:=nr rfl
def tm:f7 (.int i) (.int j)=if vn i j=true then .ok (.int (i / j)) else .stk:=nr rfl
def OA:vo (.int i) (.int j)=if decide (0<j)=true then .ok (.int (i % j)) else .stk:=nr rfl
def OB:L7 (.int i) (.int j)=if L6 i j=true then .ok (.int (i ^ j.toNat)) else .stk:=nr rfl
def OC:L8 (.int i)=.ok (.int (-i)):=nr rfl
def UE:Ug (.int i) (.int j)=.ok (.bl (decide (i<j))):=nr rfl
def UH:NU (.int i) (.int j)=.ok (.bl (decide (j<i))):=nr rfl
def UI:Xc (.int i) (.int j)=.ok (.bl (decide (j<=i))):=nr rfl
theorem OD:rK (.lst us) (.int i)=Wb (mP us i):=by show (match mP us i with|some z=>R.ok z|none=>.stk)=_;cases mP us i<;>rfl
theorem OE:rK (.tup us) (.int i)=Wb (mP us i):=by show (match mP us i with|some z=>R.ok z|none=>.stk)=_;cases mP us i<;>rfl
theorem OF:rK (.scr us) (.int i)=Wb (mP us i):=by show (match mP us i with|some z=>R.ok z|none=>.stk)=_;cases mP us i<;>rfl
def OG:Wb (some u)=.ok u:=nr rfl
def OH:ki (.lst us) lo hi=.ok (.lst (iD us lo hi)):=nr rfl
def IF:ki (.tup us) lo hi=.ok (.tup (iD us lo hi)):=nr rfl
def IG:iR [.lst us]=.ok (.int us.length):=nr rfl
def xN:iR [.tup us]=.ok (.int us.length):=nr rfl
def IH:iR [.scr us]=.ok (.int us.length):=nr rfl
def II:c_ [.lst us]=.ok (.tup us):=nr rfl
def OL {f:Bool->Bool}:Bt f u .non=.ok (.bl (f (sZ u))):=nr rfl
def IM:s_ [.int i,.int j]=.ok (.int (if j<i then j else i)):=nr rfl
def IP:CZ [.int i,.int j]=.ok (.int (if j>i then j else i)):=nr rfl
def UJ {f:Bool->Bool}:L_ f u w=(qX u w).bind λb=>.ok (.bl (f b)):=nr rfl
theorem we (n:Nat):mP us (n:Int)=us[n]? := by
 unfold mP EN;by_cases h:n<us.length
 ·rw[h9 (by lia),h9 (by lia)];rfl
 ·rw[h9 (by lia),hZ (by lia)];rw[aby.mpr (by lia)];rfl
def OM:mP us 0=us[0]? := we 0
def ON:mP us 1=us[1]? := we 1
theorem UK (h:0<us.length):EN us.length 0=some 0:=by unfold EN;rw[h9 (by lia),h9 (by lia)];rfl
def rQ (h0:0<j)(h1:j<18446744073709551616):vn i j=true:=by unfold vn;simp[h0,h1]
theorem tq (h0:0<=i)(h1:i<18446744073709551616):jy i j=true:=by
 unfold jy;simp only[acO,aau,decide_eq_true_eq];exact .inl ⟨by lia,by lia⟩
theorem ph (h0:0<=j)(h1:j<18446744073709551616):jy i j=true:=by
 unfold jy;simp only[acO,aau,decide_eq_true_eq];exact .inr ⟨by lia,by lia⟩
end
end L2
namespace L2
theorem OP {i:Nat}{w u:U}{us:List U}{ρ:Ev}:UB i w (.int 0) ρ (some (some (.lst (u::us))))=.nx (ρ.set i (some (.lst (w::us)))):=by
 rw[Om (UK (by rw[aat];lia))];rfl
theorem kq {G:Gm}{js:List (Option Nat)}{sg:U->Ev->R Ev}{ge:Ev->R (U×Ev)}{σ:Type}(ev:σ->Ev)(N:Nat)(I:List U->σ->Prop)
  (step:∀done u s,done.length<N->I done s->∃ρi y ρi' s',sg u (i9 js (ev s))=.ok ρi/\ge ρi=.ok (y,ρi')/\wb G js ρi' (ev s)=ev s'/\I (done++[y]) s') :
  ∀(us done:List U) (s:σ),done.length+us.length<=N->I done s->∃ys s',qW G js sg cR ge us (ev s)=.ok (ys,ev s')/\ys.length=us.length/\I (done++ys) s'
 | [],done,s,_,h=>⟨[],s,rfl,rfl,by rw[aa2];exact h⟩
 |u::us,done,s,hl,h=>by
  rw[aat] at hl;obtain⟨ρi,y,ρi',s',e1,e2,e3,h'⟩:=step done u s (by lia) h;obtain⟨ys,Su,e4,e5,h''⟩:=kq ev N I step us _ s' (by rw[aaj,adG];lia) h';refine⟨y::ys,Su,?_,by rw[aat,aat,e5],by rw[aaP] at h'';exact h''⟩;rw[Q7,e1,Fv,Iy,Fv,h9 rfl,e2,Fv,e3,e4,Fv]
theorem bF {s:Ev->SR}(I:Nat->Ev->Prop)(step:∀(i:Nat) (u:U) (ρ:Ev),us[i]? = some u->I i ρ->∃ρ1 ρ2,sg u ρ=.ok ρ1/\(s ρ1=.nx ρ2\/s ρ1=.ct ρ2)/\I (i+1) ρ2)(h:I 0 ρ) :
  ∃ρ',d6 sg s us ρ=.nx ρ'/\I us.length ρ':=by
 have gen:∀(n i:Nat) (ρ:Ev),i+n=us.length->I i ρ->∃ρ',d6 sg s (us.drop i) ρ=.nx ρ'/\I us.length ρ':=by
  intro n
  induction n with
  |zero=>
   intro i ρ hi h;have:i=us.length:=by lia
   subst this;rw[adq];exact⟨ρ,rfl,h⟩
  |succ n ih=>
   intro i ρ hi h;have CA:i<us.length:=by lia
   obtain⟨ρ1,ρ2,e1,e2,h2⟩:=step i us[i] ρ (aac CA) h;obtain⟨ρ',e3,h3⟩:=ih (i+1) ρ2 (by lia) h2;refine⟨ρ',?_,h3⟩;rw[abK CA,nB,e1,C9];rcases e2 with e2|e2<;>(rw[e2];exact e3)
 have:=gen us.length 0 ρ (by lia) h
 rwa [List.drop_zero] at this
theorem Du {f:U->R (Option U)}{g:U->U}:∀{us:List U},(∀u∈us,f u=.ok (some (g u)))->yO f us=.ok (us.map g)
 | [],_=>rfl
 |u::us,h=>by
  unfold yO;rw[h u aal,Du λw hw=>h w (aan _ hw)];rfl
theorem wg (ns:List Int):ja (ns.map .int)=some (ns.map .int):=by
 induction ns with
 |nil=>rfl
 |cons n ns ih=>rw[aag];unfold ja;rw[ih];rfl
theorem tw (ns:List Int):iH (ns.map .int)=0:=by
 induction ns with
 |nil=>rfl
 |cons n ns ih=>rw[aag];unfold iH;rw[ih];rfl
theorem pj:∀(ns ms:List Int),ju (ns.map .int) (ms.map .int)=decide (ns=ms)
 | [],[]=>by unfold ju;simp
 | [],m::ms=>by simp[ju]
 |n::ns,[]=>by simp[ju]
 |n::ns,m::ms=>by
  rw[aag,aag];unfold ju iQ;rw[pj ns ms,abu];simp
theorem IQ (ns ms:List Int):qX (.tup (ns.map .int)) (.tup (ms.map .int))=.ok (decide (ns=ms)):=by
 unfold qX;have e1:∀ns:List Int,o8 (.tup (ns.map .int))=some _:=λns=>by unfold o8;rw[wg];rfl
 rw[e1,e1];dsimp only;rw[h9 (by unfold eB;rw[tw];lia)];unfold iQ;rw[pj]
def OQ (a b:Bool):qX (.bl a) (.bl b)=.ok (a==b):=by
 unfold qX o8;rfl
noncomputable def au (n:Nat):List Int:=(aa7 n).map λi=>(i:Nat)
def dJ (n:Nat):aP 0 n=(au n).map .int:=by
 unfold aP au;rw[aaq];exact aaB λi _=>by show U.int _=.int _;rw[Int.zero_add]
def bC (n:Nat):(au n).length=n:=by unfold au;rw[aab,abd]
theorem eT {x:Int}:x∈au n↔0<=x/\x<n:=by
 unfold au;rw[aas];constructor
 ·rintro⟨i,h,rfl⟩;have:=ad4.mp h;lia
 ·intro h;exact⟨x.toNat,ad4.mpr (by lia),by lia⟩
def BJ (us:List U)(c:U->Bool):Bv [.lst (us.map λu=>.bl (c u))]=.ok (.bl (us.all c)):=by
 have e:us.map (λu=>U.bl (c u))=(us.map c).map .bl:=by rw[aaq];rfl
 unfold Bv;dsimp only;rw[e,E6];dsimp only;rw[aeq];rfl
end L2
namespace L2
def aw:=zyy @N5<|zyy @HL<|zyy @YD<|zyy @Fv<|zyy @C9<|zyy @Us<|zyy @YE<|zyy @N7<|zyy @HM<|zyy @N8<|zyy @HN<|zyy @N9<|zyy @Ut<|zyy @Uv<|zyy @HP<|zyy @Dd<|zyy @HQ<|zyy @HU<|zyy @Uw<|zyy @Ux<|zyy @Oc<|zyy @Dg<|zyy @Uy<|zyy @Od<|zyy @Oe<|zyy @YI<|zyy @HV<|zyy @Dh<|zyy @Of<|zyy @Di<|zyy @Uz<|zyy @HX<|zyy @HZ<|zyy @H9<|zyy @H_<|zyy @Ic<|zyy @Og<|zyy @Ie<|zyy @Oi<|zyy @Ig<|zyy @Oj<|zyy @Ii<|zyy @Ik<|zyy @Dk<|zyy @Il<|zyy @xK<|zyy @BI<|zyy @Io<|zyy @Iu<|zyy @Iv<|zyy @Ot<|zyy @Ou<|zyy @Ov<|zyy @Iy<|zyy @Ox<|zyy @UD<|zyy @Iz<|zyy @Dq<|zyy @IA<|zyy @Dr<|zyy @Oy<|zyy @zG<|zyy @wc<|zyy @wd<|zyy @IB<|zyy @IC<|zyy @ID<|zyy @Oz<|zyy @IE<|zyy @tm<|zyy @OA<|zyy @OB<|zyy @OC<|zyy @UE<|zyy @UH<|zyy @UI<|zyy @OD<|zyy @OE<|zyy @OF<|zyy @OG<|zyy @OH<|zyy @IF<|zyy @IG<|zyy @xN<|zyy @IH<|zyy @II<|zyy @OL<|zyy @IM<|zyy @IP<|zyy @UJ<|zyy @OM<|zyy @ON @OP
end L2
namespace L2
def g_ (P:acC)(w:abq)(base:acP)(k:Nat)(G:Gm)(m:Md)(s:Ev->SR)(d:Df K mg x st)(S:aK N ps (ai st))(hb:∀(kV kN pm:aak) (an:Option aaM) (cA ct:aak) (us:List aak),us.length=ps.length->afJ (abP x x (dC st) (bI st) (ai st) .none kV kN pm an cA ct) ⟨us,[]⟩=pure (ps.zip us))(eG:∀{f:aaM} {cA:aak} {A:aba} {outer:List Env} {s0:aaD} {H:Hp} {E:XK} (hr:dS k (A.deeper (ac5 x (ai st) s0.heap.objs.size f cA))),(A.deeper (ac5 x (ai st) s0.heap.objs.size f cA)).units+64<abI->xt (gG xi P w K mg base N x (ai st) f cA A outer s0 H E).nox G m (bI st) s)(yP:G.io=false:=by rfl)(i4:∀i,i<ps.length->G.is i=false:=by decide):Fn P w K mg base x (k+1) ps (j8 K ps.length (dF m N.length s) m):=Df.fnD G m s d S hb yP i4 λ_ _ _ _ _ _ _ hr=>eG hr hr.units
def Mo (P:acC)(w:abq)(base:acP)(k:Nat)(G:Gm)(s:Ev->SR)(d:Df K mg x st)(S:aK N ps (ai st))(hb:∀(kV kN pm:aak) (an:Option aaM) (cA ct:aak) (us:List aak),us.length=ps.length->afJ (abP x x (dC st) (bI st) (ai st) .none kV kN pm an cA ct) ⟨us,[]⟩=pure (ps.zip us))(eG:∀{f:aaM} {cA:aak} {A:aba} {outer:List Env} {s0:aaD} {H:Hp} {E:XK} (hr:dS k (A.deeper (ac5 x (ai st) s0.heap.objs.size f cA))),(A.deeper (ac5 x (ai st) s0.heap.objs.size f cA)).units+64<abI->xt (gG xi P w K mg base N x (ai st) f cA A outer s0 H E).nox G .S (bI st) s)(yP:G.io=true:=by rfl)(h0:G.is 0=true:=by rfl)(i4:∀i,i<ps.length->i≠0->G.is i=false:=by decide):Fn P w K mg base x (k+1) ps (QH K ps.length (zo N.length s)):=Df.fnI G s d S hb yP h0 i4 λ_ _ _ _ _ _ _ hr=>eG hr hr.units
end L2
namespace Hc.Dw
def gI (h:acP)(a:aaM)(ds:Array DictEntry)(ep:Nat):Prop:=∃o,h.get? a=some o/\o.ExactDict/\o.data=.dict ds ep
theorem gI.ty (x:gI s.heap a ds ep):s.TypeIs (.ref a) "dict":=by
 obtain⟨o,e,c,_⟩:=x;exact⟨o,e,c.1⟩
theorem gI.at (x:gI h a ds ep)(e:∀o,h.get? a=some o->h'.get? a=some o):gI h' a ds ep:=by
 obtain⟨o,q,r⟩:=x;exact⟨o,e o q,r⟩
theorem gI.lt (x:gI h a ds ep):a<h.objs.size:=by obtain⟨o,e,_⟩:=x;exact aaA e
section
variable {w:abq}{A:aba}{d vw:aaM}
theorem OR (lo:(d==abF)=false)(x:gI s.heap d ds ep)(q:Q (.ref s.heap.objs.size) {s with heap:=s.heap.push {cls:=.type "dict_keyiterator",data:=.fields #[.ref d,.int 0 0,.int ds.size 0,.int ep 0]}}):aaW (aa1 prog w) A (pyIter (.ref d)) Q E s:=by
 have ty:=x.ty;obtain⟨od,e1,e2,e3⟩:=x;refine aeX ty F.slot_dict_iter (aa0 F.slot_dict_iter ty F.entry_dict_iter ?_ (F.args_dict_iter_1 _));refine aaa ?_;refine aaa (adI ty ?_);refine aae ?_;change aaW _ _ (ac1 d >>= _) _ _ s;unfold ac1;rw[hZ (by rw[lo];exact aaz)];refine aaa (aae (aaa (abm e1 e3 (aaa (ab2 e1 e3 ?_)))));refine aaa (abl (aae ⟨_,rfl,"dict_keyiterator",_,⟨_,aam _ rfl,rfl⟩,F.slot_dict_keyiterator_next.lookup,?_⟩));simpa [rawInt] using q
theorem OS {Q:Option aak->aaD->Prop}(t:s.heap.IsKeyIter it d i ds.size ep)(x:gI s.heap d ds ep)(hi:i<ds.size)
  (q:∀h',h'.IsKeyIter it d (i+1) ds.size ep->aek it s.heap h'->Q (some ds[i].key) {s with heap:=h'}):aaW (aa1 prog w) A (pyNext (.ref it)) Q E s:=by
 have ty:=t.typeIs;obtain⟨oi,i1,i2,i3⟩:=t;obtain⟨od,e1,e2,e3⟩:=x;refine aaa (ac0 (aa6 ty acK (aa0 acK ty afd ?_ (ae5 _))));refine aaa (aae (aaa (aaa ?_)))
 first|refine aaa (acE ty (aae ?_))|refine aaa _
 refine aaa (aea i1 i3 ?_);refine aaa (aae (aaa (abm e1 e3 ?_)));rw[hZ (by simp)];refine aaa (aae (aaa (ab2 e1 e3 ?_)));rw[hZ (by simp)];refine aae ?_;simp only[aaY,ab1 hi];refine aaa ?_
 first|refine aaa (acE ty (aae ?_))|refine aaa _
 refine aaa (wpAny_isOneOf_keyiter ty ?_);change aaW _ _ (setField _ 1 _ >>= _) _ _ s;refine aaa (adw i1 i3 (by simp) ?_);have t':(s.heap.update it (Obj.mapFields (·.setIfInBounds 1 (rawInt ((i:Int)+1))))).IsKeyIter it d (i+1) ds.size ep:=
  ⟨_,adF _ i1 (ae4 (acZ i3 _)),(af0 ..).trans i2,by rw[acZ i3];simp[rawInt]⟩
 refine aaa (abt (aaa ?_));refine wpAny_isOneOf_keyiter t'.typeIs ?_;exact aae (aae ⟨_,rfl,aae (q _ t' (aco ..))⟩)
theorem OT {Q:Option aak->aaD->Prop}(hh:A.handled=none)(t:s.heap.IsKeyIter it d i ds.size ep)(x:gI s.heap d ds ep)(hi:ds.size<=i)
  (q:∀h',Heap.ExtBut it s.heap h'->Q none {s with heap:=h'}):aaW (aa1 prog w) A (pyNext (.ref it)) Q E s:=by
 have ty:=t.typeIs;obtain⟨oi,i1,i2,i3⟩:=t;obtain⟨od,e1,e2,e3⟩:=x;refine aaa (ac0 (aa6 ty acK (aa0 acK ty afd ?_ (ae5 _))));refine aaa (aae (aaa (aaa ?_)))
 first|refine aaa (acE ty (aae ?_))|refine aaa _
 refine aaa (aea i1 i3 ?_);refine aaa (aae (aaa (abm e1 e3 ?_)));rw[hZ (by simp)];refine aaa (aae (aaa (ab2 e1 e3 ?_)));rw[hZ (by simp)];refine aae ?_;simp only[aaY,acR hi];refine aaa ?_
 first|refine aaa (acE ty (aae ?_))|refine aaa _
 change aaW _ _ (setField _ 0 _ >>= _) _ _ s;refine aaa (adw i1 i3 (by simp) ?_);refine aaa ?_;refine aaa (m:=afP _ _) (afx (by first|rfl|(rfl)) (abl ?_));refine aaa (wpAny_handled ?_);rw[hh];refine aaa (aae (wpAny_throw ?_));refine aaa (adp ⟨_,aam _ rfl,rfl⟩ afQ ?_);exact aae (q _ (((aco ..).extBut.push _).push _))
def OU (lo:(d==abF)=false)(x:gI s.heap d ds ep)(q:∀h',h'.IsValuesView s.heap.objs.size d->(∀b o,s.heap.get? b=some o->h'.get? b=some o)->Q (.ref s.heap.objs.size) {s with heap:=h'}) :
  aaW (aa1 prog w) A (Builtin.«dict.values» ⟨[.ref d],[]⟩) (λf s'=>∃v,f=.done (.ret v)/\Q v s') E s:=by
 refine aaa ?_;refine aaa (adI x.ty ?_);refine aae ?_;unfold ac1;rw[hZ (by rw[lo];exact aaz)];exact aaa (aae (aaa (abl (aae ⟨_,rfl,q _ ⟨_,aam _ rfl,rfl,rfl⟩ λb o e=>aad _ e⟩))))
theorem Dv (hv:s.heap.IsValuesView vw d)(x:gI s.heap d ds ep)(q:Q (.ref s.heap.objs.size) {s with heap:=s.heap.push {cls:=.type "dict_valueiterator",data:=.fields #[.ref d,.int 0 0,.int ds.size 0,.int ep 0]}}):aaW (aa1 prog w) A (pyIter (.ref vw)) Q E s:=by
 have ty:=hv.typeIs;obtain⟨ov,v1,v2,v3⟩:=hv;obtain⟨od,e1,e2,e3⟩:=x;refine aeX ty F.slot_dict_values_iter (aa0 F.slot_dict_values_iter ty F.entry_dict_values_iter ?_ (F.args_dict_values_iter_1 _));refine aaa (aae (aaa ?_));refine aaa (abH v1 v3 rfl (aae (aaa ?_)));refine aaa (abm e1 e3 (aaa (ab2 e1 e3 ?_)));simp only[show afn "dict_valueiterator"=false by decide,aeF,if_false];refine abl (aae ⟨_,rfl,"dict_valueiterator",_,⟨_,aam _ rfl,rfl⟩,F.slot_dict_valueiterator_next.lookup,?_⟩);simpa [rawInt] using q
theorem OV {Q:Option aak->aaD->Prop}(t:s.heap.IsValIter it d i ds.size ep)(x:gI s.heap d ds ep)(hi:i<ds.size)
  (q:∀h',h'.IsValIter it d (i+1) ds.size ep->aek it s.heap h'->Q (some ds[i].val) {s with heap:=h'}):aaW (aa1 prog w) A (pyNext (.ref it)) Q E s:=by
 have ty:=t.typeIs;obtain⟨oi,i1,i2,i3⟩:=t;obtain⟨od,e1,e2,e3⟩:=x;refine aaa (ac0 (aa6 ty acy (aa0 acy ty aeY ?_ (aeP _))));refine aaa (aae (aaa (aaa ?_)))
 first|refine aaa (acF ty (aae ?_))|refine aaa _
 refine aaa (aea i1 i3 ?_);refine aaa (aae (aaa (abm e1 e3 ?_)));rw[hZ (by simp)];refine aaa (aae (aaa (ab2 e1 e3 ?_)));rw[hZ (by simp)];refine aae ?_;simp only[aaY,ab1 hi];refine aaa ?_
 first|refine aaa (acF ty (aae ?_))|refine aaa _
 refine aaa (ae6 ty ?_);change aaW _ _ (setField (.ref it) 1 _ >>= _) _ _ s;refine aaa (adw i1 i3 (by simp) ?_);have t':(s.heap.update it (Obj.mapFields (·.setIfInBounds 1 (rawInt ((i:Int)+1))))).IsValIter it d (i+1) ds.size ep:=
  ⟨_,adF _ i1 (ae4 (acZ i3 _)),(af0 ..).trans i2,by rw[acZ i3];simp[rawInt]⟩
 refine aaa (abt (aaa ?_));refine ae6 t'.typeIs (aaa ?_);refine ae6 t'.typeIs ?_;exact aae (aae ⟨_,rfl,aae (q _ t' (aco ..))⟩)
theorem OW {Q:Option aak->aaD->Prop}(hh:A.handled=none)(t:s.heap.IsValIter it d i ds.size ep)(x:gI s.heap d ds ep)(hi:ds.size<=i)
  (q:∀h',Heap.ExtBut it s.heap h'->Q none {s with heap:=h'}):aaW (aa1 prog w) A (pyNext (.ref it)) Q E s:=by
 have ty:=t.typeIs;obtain⟨oi,i1,i2,i3⟩:=t;obtain⟨od,e1,e2,e3⟩:=x;refine aaa (ac0 (aa6 ty acy (aa0 acy ty aeY ?_ (aeP _))));refine aaa (aae (aaa (aaa ?_)))
 first|refine aaa (acF ty (aae ?_))|refine aaa _
 refine aaa (aea i1 i3 ?_);refine aaa (aae (aaa (abm e1 e3 ?_)));rw[hZ (by simp)];refine aaa (aae (aaa (ab2 e1 e3 ?_)));rw[hZ (by simp)];refine aae ?_;simp only[aaY,acR hi];refine aaa ?_
 first|refine aaa (acF ty (aae ?_))|refine aaa _
 change aaW _ _ (setField (.ref it) 0 .none >>= _) _ _ s;refine aaa (adw i1 i3 (by simp) ?_);refine aaa ?_;refine aaa (m:=afP _ _) (afx (by first|rfl|(rfl)) (abl ?_));refine aaa (wpAny_handled ?_);rw[hh];refine aaa (aae (wpAny_throw ?_));refine aaa (adp ⟨_,aam _ rfl,rfl⟩ afQ ?_);exact aae (q _ (((aco ..).extBut.push _).push _))
def UL (lo:(d==abF)=false)(x:gI s.heap d ds ep)(q:∀h',h'.IsItemsView s.heap.objs.size d->(∀b o,s.heap.get? b=some o->h'.get? b=some o)->Q (.ref s.heap.objs.size) {s with heap:=h'}) :
  aaW (aa1 prog w) A (Builtin.«dict.items» ⟨[.ref d],[]⟩) (λf s'=>∃v,f=.done (.ret v)/\Q v s') E s:=by
 refine aaa ?_;refine aaa (adI x.ty ?_);refine aae ?_;unfold ac1;rw[hZ (by rw[lo];exact aaz)];exact aaa (aae (aaa (abl (aae ⟨_,rfl,q _ ⟨_,aam _ rfl,rfl,rfl⟩ λb o e=>aad _ e⟩))))
theorem UM (hv:s.heap.IsItemsView vw d)(x:gI s.heap d ds ep)(q:∀h',afq h' s.heap.objs.size d 0 ds.size ep .none .none->(∀b o,s.heap.get? b=some o->h'.get? b=some o)->Q (.ref s.heap.objs.size) {s with heap:=h'}):aaW (aa1 prog w) A (pyIter (.ref vw)) Q E s:=by
 have ty:=hv.typeIs;obtain⟨ov,v1,v2,v3⟩:=hv;obtain⟨od,e1,e2,e3⟩:=x;refine aeX ty F.slot_dict_items_iter (aa0 F.slot_dict_items_iter ty F.entry_dict_items_iter ?_ (F.args_dict_items_iter_1 _));refine aaa (aae (aaa ?_));refine aaa (abH v1 v3 rfl (aae (aaa ?_)));refine aaa (abm e1 e3 (aaa (ab2 e1 e3 ?_)));simp only[show afn "dict_itemiterator"=true by decide,if_true];refine abl (aae ⟨_,rfl,"dict_itemiterator",_,⟨_,aam _ rfl,rfl⟩,F.slot_dict_itemiterator_next.lookup,?_⟩)
  (by simp only[sizeOk,aef,aax,aaj,aat,adH,ack];lia)
 exact q _ (by
  have:=aam s.heap (o:={cls:=.type "dict_itemiterator",data:=.fields #[.none,.bool false,.ref d,.int 0 0,.int ds.size 0,.int ep 0,.none,.none]}) rfl;unfold afq;simpa [rawInt,aef] using this) λb o e=>aad _ e
theorem UN {ok ov:aak}{Q:Option aak->aaD->Prop}(t:afq s.heap it d i ds.size ep ok ov)(x:gI s.heap d ds ep)(hi:i<ds.size)
  (q:∀h',IsItemIterOut h' it d (i+1) ds.size ep ds[i].key ds[i].val s.heap.objs.size->h'.get? s.heap.objs.size=some {cls:=.type "tuple",data:=.seq #[ds[i].key,ds[i].val]} ->
   (∀b o,b≠it->s.heap.get? b=some o->h'.get? b=some o)->Q (some (.ref s.heap.objs.size)) {s with heap:=h'}):aaW (aa1 prog w) A (pyNext (.ref it)) Q E s:=by
 obtain⟨hp,g,dr,tk,os⟩:=s;have ty:Shared.TypeIs _ (.ref it) _:=⟨_,t,rfl⟩;obtain⟨od,e1,e2,e3⟩:=x;refine aaa (ac0 (aa6 ty acG (aa0 acG ty ae7 ?_ (aeZ _))));refine aaa (aae (aaa (aaa ?_)))
 first|refine aaa (acz ty (aae ?_))|refine aaa _
 refine aaa (aea t rfl ?_);refine aaa (aae (aaa (abm e1 e3 ?_)));rw[hZ (by simp)];refine aaa (aae (aaa (ab2 e1 e3 ?_)));rw[hZ (by simp)];refine aae ?_;simp only[aaY,ab1 hi];refine aaa ?_
 first|refine aaa (acz ty (aae ?_))|refine aaa _
 refine aaa (aeR ty ?_);change aaW _ _ (setField _ 3 _ >>= _) _ _ _;refine aaa (abC t (by simp) λg1 t1 b1=>?_);have Y_:Shared.TypeIs ⟨g1,g,dr,tk,os⟩ (.ref it) _:=⟨_,t1,rfl⟩;refine aaa (abt (aaa (aeR Y_ (aaa (aeR Y_ ?_)))));refine aaa (wpAny_newTuple ?_);have t2:afq (g1.push {cls:=.type "tuple",data:=.seq #[ds[i].key,ds[i].val]}) it d _ _ ep ok ov:=aad _ t1;have n1:=b1.1;have lt:=aaA t;have u2:(g1.push {cls:=.type "tuple",data:=.seq #[ds[i].key,ds[i].val]}).get? hp.objs.size=some {cls:=.type "tuple",data:=.seq #[ds[i].key,ds[i].val]}:=by rw[←n1];exact aam _ rfl
 have k2:∀b o,b≠it->hp.get? b=some o->(g1.push {cls:=.type "tuple",data:=.seq #[ds[i].key,ds[i].val]}).get? b=some o:=λb o hb e=>aad _ (b1.extBut b o hb e);rw[n1];generalize g1.push _=g2 at t2 u2 k2 ⊢;refine aaa ?_;refine aaa (abH t2 rfl rfl (aae ?_));refine aaa (abH t2 rfl rfl (aaa (abH t2 rfl rfl ?_)));refine aaa (abC t2 (by simp) λg3 t3 b3=>?_);refine aaa (abC t3 (by simp) λg4 t4 b4=>?_);refine aaa (abC t4 (by simp) λg5 t5 b5=>?_);refine aaa (abC t5 (by simp) λg6 t6 b6=>?_);have up:=λb o hb e=>b6.extBut b o hb (b5.extBut b o hb (b4.extBut b o hb (b3.extBut b o hb e)));exact aaa (wpAny_letGo (aae (aae ⟨_,rfl,aae (q g6 t6 (up _ _ (acX lt) u2) λb o hb e=>up b o hb (k2 b o hb e))⟩)))
theorem UO {ok ov:aak}{Q:Option aak->aaD->Prop}(hh:A.handled=none)(t:afq s.heap it d i ds.size ep ok ov)(x:gI s.heap d ds ep)(hi:ds.size<=i)
  (q:∀h',Heap.ExtBut it s.heap h'->Q none {s with heap:=h'}):aaW (aa1 prog w) A (pyNext (.ref it)) Q E s:=by
 have ty:s.TypeIs (.ref it) _:=⟨_,t,rfl⟩;obtain⟨od,e1,e2,e3⟩:=x;refine aaa (ac0 (aa6 ty acG (aa0 acG ty ae7 ?_ (aeZ _))));refine aaa (aae (aaa (aaa ?_)))
 first|refine aaa (acz ty (aae ?_))|refine aaa _
 refine aaa (aea t rfl ?_);refine aaa (aae (aaa (abm e1 e3 ?_)));rw[hZ (by simp)];refine aaa (aae (aaa (ab2 e1 e3 ?_)));rw[hZ (by simp)];refine aae ?_;simp only[aaY,acR hi];refine aaa ?_
 first|refine aaa (acz ty (aae ?_))|refine aaa _
 change aaW _ _ (setField _ 2 _ >>= _) _ _ s;refine aaa (adw t rfl (by simp) ?_);refine aaa ?_;refine aaa (m:=afP _ _) (afx (by first|rfl|(rfl)) (abl ?_));refine aaa (wpAny_handled ?_);rw[hh];refine aaa (aae (wpAny_throw ?_));refine aaa (adp ⟨_,aam _ rfl,rfl⟩ afQ ?_);exact aae (q _ (((aco ..).extBut.push _).push _))
end
end Hc.Dw
namespace L2
open Hc.Dw
theorem tX {α β:Type}{R:α->β->Prop}:∀{xs:List α} {ys:List β} {i:Nat} {y:β},adD R xs ys->ys[i]? = some y->∃x,xs[i]? = some x/\R x y
 |_,_,_,_,.nil,h=>by simp at h
 |x::xs,y'::ys,0,y,.cons r t,h=>by simp at h;subst h;exact⟨x,by simp,r⟩
 |x::xs,y'::ys,i+1,y,.cons r t,h=>by
  obtain⟨x',m,q⟩:=tX t (by simpa using h);exact⟨x',by simpa using m,q⟩
theorem aE.rawD (I:aE X pins σ H s)(q:H a=some (DN a ep es)):(a==abF)=false/\∃ds,gI s.heap a ds ep/\ds.size=es.length/\∀(i:Nat) (hi:i<ds.size),∃e,es[i]? = some e/\ds[i].key=.ref e.2.1/\aL e.2.2 ds[i].val:=by
 obtain⟨⟨l,o,ds,xs,h1,h2,h3,h4,h5⟩,_⟩:=I.hok a _ q;have n1:ds.size=es.length:=by rw[←aay,h5,aab,adh h4]
 refine⟨l,ds,⟨o,h1,h2,h3⟩,n1,λi hi=>?_⟩;have e1:ds.toList[i]? = some ds[i]:=by rw[aa5];exact getElem?_pos ds i hi
 rw[h5,aar] at e1;cases e2:xs[i]? with
 |none=>rw[e2] at e1;cases e1
 |some x=>
  rw[e2] at e1;have e3:=by injection e1
  obtain⟨e,m,r⟩:=tX h4 e2;refine⟨e,m,?_,?_⟩
  ·rw[←e3,r.2.1];rfl
  ·rw[←e3];exact r.2.2
noncomputable def Xm (a:aaM)(ep:Nat)(es:List (List U×aaM×V)):It:=
 ⟨λi H=>H a=some (DN a ep es)/\i<es.length,λi H v H'=>H'=H/\∃e,es[i]? = some e/\v=.ref e.2.1,λi H=>H a=some (DN a ep es)/\es.length<=i⟩
noncomputable def Xn (a:aaM)(ep:Nat)(es:List (List U×aaM×V)):It:=
 ⟨λi H=>H a=some (DN a ep es)/\i<es.length,λi H v H'=>H'=H/\∃e,es[i]? = some e/\v=e.2.2,λi H=>H a=some (DN a ep es)/\es.length<=i⟩
noncomputable def Xo (a:aaM)(ep:Nat)(es:List (List U×aaM×V)):It:=
 ⟨λi H=>H a=some (DN a ep es)/\i<es.length,λi H v H'=>∃T e,v=.ref T/\H T=none/\es[i]? = some e/\H'=cT H T (.tup [.ref e.2.1,e.2.2]),λi H=>H a=some (DN a ep es)/\es.length<=i⟩
section
variable {w:abq}
theorem Fw:w_ P w K tg (Xm a ep es) [it] it (λi h=>h.IsKeyIter it a i es.length ep) where
 mem:=by simp
 obj:=λi h st b hb=>by
  have e:=by simpa using hb
  subst e;obtain⟨o,e,c,d⟩:=st;exact⟨o,e,λv z=>by rw[d] at z;cases z⟩
 keep:=λi h h' st k=>st.at λo e=>k it (by simp) o e
 item:=by
  intro X hP hw hK hc i pins s σ H E I hf st hg;obtain⟨hq,hi⟩:=hg;obtain⟨_,ds,rd,n,at_⟩:=I.rawD hq;obtain⟨f0,f1,f2,f3,f4,f5⟩:=hf it (by simp);rw[←n] at st hi;obtain⟨e,m,ek,rv⟩:=at_ i hi;refine OS st rd hi λh' aN sb=>?_;have I1:=I.turned (t':=s.toks) (λb o hb e=>(sb.2 b hb).trans e) f0 f1 f3 f4 f5;rw[n] at aN;obtain⟨o,e1,c,d⟩:=id aN;exact⟨_,rfl,yV e1 c d (by decide) ⟨.ref e.2.1,H,I1,ek,⟨rfl,e,m,rfl⟩,aN,λb hb=>(hf b hb).1⟩⟩
 done:=by
  intro X hP hw hK hc i pins s σ H E I hf st hg;obtain⟨hq,hi⟩:=hg;obtain⟨_,ds,rd,n,at_⟩:=I.rawD hq;obtain⟨f0,f1,f2,f3,f4,f5⟩:=hf it (by simp);rw[←n] at st hi;exact OT (I.ok.hd hc) st rd hi λh' eb=>⟨rfl,I.turned (λb o hb e=>eb b o hb e) f0 f1 f3 f4 f5⟩
 self:=λ_ _ _ _ _ st h=>wpAny_pyIter_keyiter st h
theorem Fx:w_ P w K tg (Xn a ep es) [it] it (λi h=>h.IsValIter it a i es.length ep) where
 mem:=by simp
 obj:=λi h st b hb=>by
  have e:=by simpa using hb
  subst e;obtain⟨o,e,c,d⟩:=st;exact⟨o,e,λv z=>by rw[d] at z;cases z⟩
 keep:=λi h h' st k=>st.at λo e=>k it (by simp) o e
 item:=by
  intro X hP hw hK hc i pins s σ H E I hf st hg;obtain⟨hq,hi⟩:=hg;obtain⟨_,ds,rd,n,at_⟩:=I.rawD hq;obtain⟨f0,f1,f2,f3,f4,f5⟩:=hf it (by simp);rw[←n] at st hi;obtain⟨e,m,ek,rv⟩:=at_ i hi;refine OV st rd hi λh' aN sb=>?_;have I1:=I.turned (t':=s.toks) (λb o hb e=>(sb.2 b hb).trans e) f0 f1 f3 f4 f5;rw[n] at aN;obtain⟨o,e1,c,d⟩:=id aN;exact⟨_,rfl,yV e1 c d (by decide) ⟨e.2.2,H,I1,rv,⟨rfl,e,m,rfl⟩,aN,λb hb=>(hf b hb).1⟩⟩
 done:=by
  intro X hP hw hK hc i pins s σ H E I hf st hg;obtain⟨hq,hi⟩:=hg;obtain⟨_,ds,rd,n,at_⟩:=I.rawD hq;obtain⟨f0,f1,f2,f3,f4,f5⟩:=hf it (by simp);rw[←n] at st hi;exact OW (I.ok.hd hc) st rd hi λh' eb=>⟨rfl,I.turned (λb o hb e=>eb b o hb e) f0 f1 f3 f4 f5⟩
 self:=λ_ _ _ _ _ st h=>wpAny_pyIter_valiter st h
def tY:entryFor table "dict_itemiterator.__iter__"=some Builtin.«dict_keyiterator.__iter__» :=
 entryFor_alias (id':="dict_keyiterator.__iter__") (by kernel_rfl) rfl (by decide+kernel) (by kernel_rfl)
theorem BK {A:aba}{ok ov:aak}(st:afq s.heap it a i n ep ok ov)(h:Q (.ref it) s):aaW (aa1 P w) A (pyIter (.ref it)) Q E s:=by
 have ty:s.TypeIs (.ref it) _:=⟨_,st,rfl⟩;refine aeX ty afe (aa0 afe ty tY ?_ (F.args_dict_itemiterator_iter_1 _));exact aae ⟨_,rfl,"dict_itemiterator",_,ty,F.slot_dict_itemiterator_next.lookup,h⟩
theorem BL:w_ P w K (.Tuple elts kt tp) (Xo a ep es) [it] it (λi h=>∃ok ov,afq h it a i es.length ep ok ov) where
 mem:=by simp
 obj:=λi h st b hb=>by
  have e:=by simpa using hb
  subst e;obtain⟨ok,ov,q⟩:=st;exact⟨_,q,λv z=>by cases z⟩
 keep:=λi h h' ⟨ok,ov,q⟩ k=>⟨ok,ov,k it (by simp) _ q⟩
 item:=by
  intro X hP hw hK hc i pins s σ H E I hf st hg;obtain⟨hq,hi⟩:=hg;obtain⟨_,ds,rd,n,at_⟩:=I.rawD hq;obtain⟨ok,ov,st⟩:=st;rw[←n] at st hi;obtain⟨e,m,ek,rv⟩:=at_ i hi;have lt:=aaA st;refine UN st rd hi λh' aN tu kp=>⟨_,rfl,?_⟩;refine wpAny_letOwnedTupleGo_items aN λh2 lN sb=>?_;have Za:=sb.extBut _ _ (acX lt) tu;have I2:aE X pins σ (cT H _ (.tup [.ref e.2.1,e.2.2])) _:=I.turnNew (t':=s.toks) hf (λb o hb q=>by
   have hb:=by simpa using hb
   exact sb.extBut _ _ hb (kp b o hb q)) (aao _) ⟨by rw[ack];simp,[ds[i].key,ds[i].val],.cons ek (.cons rv .nil),⟨_,Za,rfl,_,rfl⟩,_,Za⟩
  refine⟨.ref _,_,I2,rfl,⟨_,e,rfl,I.hok.fresh (aao _),m,rfl⟩,⟨_,_,by rw[←n];exact lN⟩,λb hb=>?_⟩;have NH:=by simpa using hb
  rw[aI (by rw[NH];exact aaN lt)];exact (hf b hb).1
 done:=by
  intro X hP hw hK hc i pins s σ H E I hf st hg;obtain⟨hq,hi⟩:=hg;obtain⟨_,ds,rd,n,at_⟩:=I.rawD hq;obtain⟨f0,f1,f2,f3,f4,f5⟩:=hf it (by simp);obtain⟨ok,ov,st⟩:=st;rw[←n] at st hi;exact UO (I.ok.hd hc) st rd hi λh' eb=>⟨rfl,I.turned (λb o hb e=>eb b o hb e) f0 f1 f3 f4 f5⟩
 self:=λ_ _ _ _ _ ⟨ok,ov,st⟩ h=>BK st h
end
def Wc (J:aaM->Nat->List (List U×aaM×V)->It)(tl:TE):TI:=λσ H R=>tl σ H λx H1=>∃a ep es,x=.ref a/\H1 a=some (DN a ep es)/\R (J a ep es) H1
structure M0 (X:Cx)(o:aca)(m:Str)(bW cpos:Pos):Prop where
 base:adP o m X.env (adB o X.env)=adB o X.env
 few:((acq cpos (aaC [] X.env)).all (λx=> !x.1)&&(backToKw cpos (aeU [] X.env)).all (λx=>x.1.isSome)
  && decide (([]:List aca).length+([]:List aex).length+(if ([]:List aex).isEmpty then 0 else 1)<30))=true
 line:(bW.endLine==cpos.line)=true
 trees:acq cpos (aaC [] X.env)=[]
section
variable {e:aca}{tl:TE}{bW cpos:Pos}
theorem BM (I:aE X pins σ H s)(q:H a=some (DN a ep es)):s.TypeIs (.ref a) "dict"/\∀b,Value.ref a=.ref b->∃ob,s.heap.get? b=some ob/\ob.dict=none:=by
 obtain⟨_,ds,rd,_⟩:=I.rawD q;refine⟨rd.ty,λb z=>?_⟩;cases z;obtain⟨o,h1,h2,_⟩:=rd;exact⟨o,h1,h2.2.1⟩
theorem Mp (hl:PE X e tl):PI X tg e (Wc Xm tl):=by
 intro pins s σ H R I h;refine dE (hl pins s σ H _ I h) λv s1 ⟨x,H1,I1,r1,a,ep,es,ex,hq,q⟩=>?_;subst ex;cases r1;obtain⟨lo,ds,rd,n,_⟩:=I1.rawD hq;refine OR lo rd ?_;refine⟨s1.heap.objs.size,[s1.heap.objs.size],_,_,H1,rfl,I1.kept λb o e=>aad _ e,Fw,⟨_,aam _ rfl,rfl,by rw[n];rfl⟩,λb hb=>?_,q⟩;have e:=by simpa using hb
 exact I1.fpOk (by rw[e];exact aao _) (I1.hok.fresh (by rw[e];exact aao _))
theorem IS (hl:PE X e tl)(m:M0 X e "items" bW cpos):PI X (.Tuple elts kt tp) (.Call (.Attribute e "items" bW) [] [] cpos) (Wc Xo tl):=by
 intro pins s σ H R I h;refine adR m.base m.few m.line acJ PySem.F.slot_dict_items PySem.F.type_dict_items (dE (hl pins s σ H _ I h) λv s1 ⟨x,H1,I1,r1,a,ep,es,ex,hq,q⟩=>?_);subst ex;cases r1;obtain⟨t1,t2⟩:=BM I1 hq;refine⟨t1,t2,?_⟩;obtain⟨lo,ds,rd,n,_⟩:=I1.rawD hq;refine ach rfl (adZ ?_);refine aa0 PySem.F.slot_dict_items t1 PySem.F.entry_dict_items (UL lo rd λh1 vw k1=>?_) (PySem.F.args_dict_items_1 _);refine UM vw (rd.at λo z=>k1 _ o z) λh2 st k2=>?_;have I2:=I1.kept (t':=s1.toks) λb o z=>k2 b o (k1 b o z);refine⟨h1.objs.size,[h1.objs.size],_,_,H1,rfl,I2,BL,⟨_,_,by rw[←n];exact st⟩,λb hb=>?_,q⟩;have e:=by simpa using hb
 have ge:s1.heap.objs.size<=h1.objs.size:=by
  obtain⟨o,z,_⟩:=vw;exact afH (aaA z)
 exact I1.fpOk (by rw[e];exact ge) (I1.hok.fresh (by rw[e];exact ge))
theorem Mq (hl:PE X e tl)(m:M0 X e "values" bW cpos):PI X tg (.Call (.Attribute e "values" bW) [] [] cpos) (Wc Xn tl):=by
 intro pins s σ H R I h;refine adR m.base m.few m.line acJ ac_ af2 (dE (hl pins s σ H _ I h) λv s1 ⟨x,H1,I1,r1,a,ep,es,ex,hq,q⟩=>?_);subst ex;cases r1;obtain⟨t1,t2⟩:=BM I1 hq;refine⟨t1,t2,?_⟩;obtain⟨lo,ds,rd,n,_⟩:=I1.rawD hq;refine ach rfl (adZ ?_);refine aa0 ac_ t1 afR (OU lo rd λh1 vw k1=>?_) (afE _);refine Dv vw (rd.at λo z=>k1 _ o z) ?_;have I2:aE X pins σ H1 {s1 with heap:=h1.push {cls:=.type "dict_valueiterator",data:=.fields #[.ref a,.int 0 0,.int ds.size 0,.int ep 0]}}:=I1.kept λb o z=>aad _ (k1 b o z);refine⟨h1.objs.size,[h1.objs.size],_,_,H1,rfl,I2,Fx,⟨_,aam _ rfl,rfl,by rw[n];rfl⟩,λb hb=>?_,q⟩;have e:=by simpa using hb
 have ge:s1.heap.objs.size<=h1.objs.size:=by
  obtain⟨o,z,_⟩:=vw;exact afH (aaA z)
 exact I1.fpOk (by rw[e];exact ge) (I1.hok.fresh (by rw[e];exact ge))
end
end L2
namespace L2
open Hc.Dw
mutual
theorem UP {K:aai}{H:Hp}{A:aaM->Prop}:∀{u:U} {v:V},KH H u v->Rp K H A u v
 | .int i,v,h=>by unfold KH at h;unfold Rp;exact h
 | .tup us,v,h=>by
  unfold KH at h;unfold Rp;obtain⟨b,ys,e,q,l,z⟩:=h;exact⟨b,ys,e,q,l,BN z⟩
 | .non,v,h=>by unfold KH at h;exact h.elim
 | .bl _,v,h=>by unfold KH at h;exact h.elim
 | .str _,v,h=>by unfold KH at h;exact h.elim
 | .lst _,v,h=>by unfold KH at h;exact h.elim
 | .dct _ _,v,h=>by unfold KH at h;exact h.elim
 | .scr _,v,h=>by unfold KH at h;exact h.elim
 | .obj _ _,v,h=>by unfold KH at h;exact h.elim
theorem BN {K:aai}{H:Hp}{A:aaM->Prop}:∀{us:List U} {vs:List V},sL H us vs->aS K H A us vs
 | [],vs,h=>by unfold sL at h;unfold aS;exact h
 |u::us,vs,h=>by
  unfold sL at h;unfold aS;obtain⟨x,r,q,p,z⟩:=h;exact⟨x,r,q,UP p,BN z⟩
end
theorem OX (h:qU H us b):Rp K H A (.tup us) (.ref b):=by
 obtain⟨_,ys,q,l,z⟩:=h;exact⟨b,ys,rfl,q,l,BN z⟩
noncomputable def UQ:U->Bool
 | .tup _=>true
 |_=>false
noncomputable def mQ (ks:List U):Bool:= !ks.isEmpty&&ks.all UQ
theorem pq (w:mQ ks=true)(d:xm H a ks xs):∃es ep,H a=some (DN a ep es)/\(∀e∈es,qU H e.1 e.2.1)/\ks=es.map (λp=>.tup p.1)/\xs=es.map (·.2.2):=by
 unfold mQ at w;rw[aau] at w;rcases d with⟨aX,h,rfl,rfl⟩|⟨es,n,h,e1,e2⟩
 ·exfalso;cases aX with
  |nil=>exact absurd w.1 (by simp)
  |cons p r=>
   have:=w.2;rw[aag,abT,aau] at this;obtain⟨p1,p2⟩:=p;cases p1<;>cases this.1
 ·obtain⟨ep,q⟩:=h.ne n;exact⟨es,ep,q,h.key,e1,e2⟩
theorem IT (mu:∀a,A a->Mu (H1 a))(w:mQ ks=true)(h:Rp K H1 A (.dct ks us) v):∃a ep es,v=.ref a/\H1 a=some (DN a ep es)/\
  Wk K false A ks (Xm a ep es) H1/\Wk K false A us (Xn a ep es) H1/\Wk K false A (ab7 (λk u=>.tup [k,u]) ks us) (Xo a ep es) H1:=by
 obtain⟨a,xs,rfl,na,d,l,z⟩:=h;obtain⟨es,ep,q,kt,e1,e2⟩:=pq w d;subst e1 e2;have le:es.length=us.length:=by rw[z.length,aab]
 have key:∀(i:Nat) (e:List U×aaM×V),es[i]? = some e->Rp K H1 A _ _:=λi e he=>OX (kt e (aaZ he));have val:∀(i:Nat) (u:U),us[i]? = some u->∃e:List U×aaM×V,es[i]? = some e/\Rp K H1 A u e.2.2:=λi u hu=>by
  obtain⟨x,h1,h2⟩:=z.get hu;rw[aar] at h1;cases he:es[i]? with
  |none=>rw[he] at h1;cases h1
  |some e=>rw[he] at h1;cases h1;exact⟨e,rfl,h2⟩
 refine⟨a,ep,es,rfl,q,⟨?_,λH A' hx ha=>?_⟩,⟨l,λH A' hx ha=>?_⟩,⟨?_,λH A' hx ha=>?_⟩⟩
 ·rw[aab,le];exact l
 ·have qa:=hx a _ na q;refine⟨λi u hu=>?_,⟨qa,by rw[aab];exact aao _⟩⟩;rw[aar] at hu;cases he:es[i]? with
  |none=>rw[he] at hu;cases hu
  |some e=>
   rw[he] at hu;cases hu;refine⟨⟨qa,(aap.mp he).1⟩,λx H' y=>?_⟩;obtain⟨rfl,e',he',rfl⟩:=y;rw[he] at he';cases he';exact⟨aJ.refl _,(key i e he).re mu hx ha⟩
 ·have qa:=hx a _ na q;refine⟨λi u hu=>?_,⟨qa,by rw[le];exact aao _⟩⟩;obtain⟨e,he,r⟩:=val i u hu;refine⟨⟨qa,(aap.mp he).1⟩,λx H' y=>?_⟩;obtain⟨rfl,e',he',rfl⟩:=y;rw[he] at he';cases he';exact⟨aJ.refl _,r.re mu hx ha⟩
 ·rw[acn];exact aaR (Nat.min_le_right _ _) l
 ·have qa:=hx a _ na q;refine⟨λi u hu=>?_,⟨qa,by rw[acn,aab,le,Nat.min_self];exact aao _⟩⟩;rw[acx,aar] at hu;cases hU:us[i]? with
  |none=>rw[hU] at hu;cases h:es[i]? <;> rw[h] at hu<;>cases hu
  |some u0=>
   obtain⟨e,he,r⟩:=val i u0 hU;rw[hU,he] at hu;cases hu;refine⟨⟨qa,(aap.mp he).1⟩,λx H' y=>?_⟩;obtain⟨T,e',rfl,hT,he',rfl⟩:=y;rw[he] at he';cases he';have sm:=cF hT (.tup [.ref e.2.1,e.2.2]);refine⟨sm,?_⟩;exact⟨T,_,rfl,bj,by have:aah=16777216:=rfl;rw[this];simp,aS.cons (((key i e he).re mu hx ha).same sm) (aS.cons ((r.re mu hx ha).same sm) aS.nil)⟩
noncomputable def UR (g:Ev->R (U×Ev)):Ev->R (List U×Ev):=λρ=>(g ρ).bind λx=>match x.1 with
 | .dct ks _=>if mQ ks=true then .ok (ks,x.2) else .stk
 |_=>.stk
noncomputable def Xp (g:Ev->R (U×Ev)):Ev->R (List U×Ev):=λρ=>(g ρ).bind λx=>match x.1 with
 | .dct ks us=>if mQ ks=true then .ok (us,x.2) else .stk
 |_=>.stk
noncomputable def OY (g:Ev->R (U×Ev)):Ev->R (List U×Ev):=λρ=>(g ρ).bind λx=>match x.1 with
 | .dct ks us=>if mQ ks=true then .ok (ab7 (λk u=>.tup [k,u]) ks us,x.2) else .stk
 |_=>.stk
section
variable {e:aca}{bW cpos:Pos}{b1:Bool}{m1:Md}{g1:Ev->R (U×Ev)}
theorem pz {f:List U->List U->List U}{J:aaM->Nat->List (List U×aaM×V)->It}(n1:m1≠.P)(hw:∀{K:aai} {A:aaM->Prop} {H1:Hp} {ks us:List U} {v:V},(∀a,A a->Mu (H1 a))->mQ ks=true->Rp K H1 A (.dct ks us) v->∃a ep es,v=.ref a/\H1 a=some (DN a ep es)/\Wk K false A (f ks us) (J a ep es) H1){R:It->Hp->Prop}(h:V6 X.K G b1 false (λρ=>(g1 ρ).bind λx=>match x.1 with
   | .dct ks us=>if mQ ks=true then .ok (f ks us,x.2) else .stk
   |_=>.stk) σ H R):Wc J (tD X.K G b1 m1 g1) σ H R:=by
 obtain⟨Z,A,ρ,q,h⟩:=h;dsimp only at h;refine⟨Z,A,ρ,q,?_⟩;cases e1:g1 ρ with
 |stk=>rw[e1] at h;exact h.elim
 |exc=>rw[e1] at h;exact h.elim
 |ok y=>
  obtain⟨u,ρ1⟩:=y;rw[e1] at h;intro v H1 q1 x1 s1 vm;cases u with
  |dct ks us=>
   dsimp only[L2.R.bind] at h;split at h
   ·rename_i PB ρ' e2;split at e2
    ·rename_i c;cases e2;obtain⟨a,ep,es,ev,hq,wk⟩:=hw q1.mu c (vm.rp n1);exact⟨a,ep,es,ev,hq,h _ H1 q1 x1 s1 wk⟩
    ·cases e2
   ·exact h.elim
  |_=>exact h.elim
theorem Dx (h:DE X G e b1 m1 g1)(n1:m1≠.P:=by decide):DI X G tg e b1 false (UR g1):=⟨(Mp h.un).to λσ H R z=>pz n1 (λmu w r=>by
 obtain⟨a,ep,es,h1,h2,h3,_⟩:=IT mu w r;exact⟨a,ep,es,h1,h2,h3⟩) z⟩
theorem Mr (h:DE X G e b1 m1 g1)(n1:m1≠.P:=by decide)(m:M0 X e "values" bW cpos:=by exact⟨rfl,rfl,rfl,rfl⟩):DI X G tg (.Call (.Attribute e "values" bW) [] [] cpos) b1 false (Xp g1):=⟨(Mq h.un m).to λσ H R z=>pz n1 (λmu w r=>by
 obtain⟨a,ep,es,h1,h2,_,h3,_⟩:=IT mu w r;exact⟨a,ep,es,h1,h2,h3⟩) z⟩
theorem ic (h:DE X G e b1 m1 g1)(n1:m1≠.P:=by decide)(m:M0 X e "items" bW cpos:=by exact⟨rfl,rfl,rfl,rfl⟩):DI X G (.Tuple elts kt tp) (.Call (.Attribute e "items" bW) [] [] cpos) b1 false (OY g1):=⟨(IS h.un m).to λσ H R z=>pz n1 (λmu w r=>by
 obtain⟨a,ep,es,h1,h2,_,_,h3⟩:=IT mu w r;exact⟨a,ep,es,h1,h2,h3⟩) z⟩
end
end L2
namespace L2
noncomputable def Gm.un (G:Gm)(i:Nat):Gm:=⟨G.own.set i false,G.io,G.W⟩
theorem jF:(G.un i).is i=false:=by
 unfold Gm.un Gm.is;rw[aav,List.getElem?_set];split
 ·split<;>rfl
 ·rename_i h;exact absurd rfl h
def kr (h:i≠j):(G.un i).is j=G.is j:=by
 unfold Gm.un Gm.is;rw[aav,aav,aa4 h]
section
variable {A':aaM->Prop}{ρ':Ev}
theorem cL.un (r:cL K G Z A ρ σ H)(hi:G.io=true->i≠0):∃A',cL K (G.un i) Z A' ρ σ H:=by
 have io0:∀h ,σ[0]? = some _/\(G.un i).is 0=true:=λh=>by
  obtain⟨a,b⟩:=r.io0 h;exact⟨a,by rw[kr (hi h)];exact b⟩
 by_cases c:G.is i=true/\∃u,ρ[i]? = some (some u)
 ·obtain⟨c,u,hu⟩:=c;obtain⟨a,h1,h2,h3,h4,h5⟩:=r.own c hu;have na:¬Z.A0 a:=by
   rcases h4 with h4|⟨h4,h6⟩
   ·exact h4
   ·exact absurd h6 (hi h4)
  have sub:∀b,(A b/\b≠a)->A b:=λb z=>z.1;refine⟨λb=>A b/\b≠a,?_⟩;exact {
   slot:=λj w hj=>by
    obtain⟨v,s1,s2⟩:=r.slot j w hj;refine⟨v,s1,?_⟩;by_cases e:i=j
    ·subst e;rw[hu] at hj;cases hj;rw[h1] at s1;cases s1;rw[hZ (by rw[jF];exact aaz)];exact h5.rp sub λz=>z.2 rfl
    ·rw[kr e];by_cases cj:G.is j=true
     ·rw[h9 cj] at s2 ⊢;obtain⟨b,e1,e2,e3,e4,e5⟩:=s2;refine⟨b,e1,⟨e2,λz=>?_⟩,e3,e4,e5.mono sub⟩;subst z e1;exact r.dis i j u w b c cj e hu hj h1 s1
     ·rw[hZ cj] at s2 ⊢;exact s2.mono sub
   dis:=λj k w w' b cj ck ne hj hk sj sk=>by
    have e1:i≠j:=λz=>by subst z;rw[jF] at cj;cases cj
    have e2:i≠k:=λz=>by subst z;rw[jF] at ck;cases ck
    rw[kr e1] at cj;rw[kr e2] at ck;exact r.dis j k w w' b cj ck ne hj hk sj sk
   mu:=λb z=>r.mu b z.1
   sup:=λb z=>⟨r.sup b z,λe=>na (e▸z)⟩
   out:=λb z=>r.out b z.1
   bas:=r.bas
   io0:=io0
   len:=r.len}
 ·refine⟨A,?_⟩;exact {
   slot:=λj w hj=>by
    obtain⟨v,s1,s2⟩:=r.slot j w hj;refine⟨v,s1,?_⟩;by_cases e:i=j
    ·subst e;rw[hZ (by rw[jF];exact aaz)];rw[hZ (λz=>c ⟨z,w,hj⟩)] at s2;exact s2
    ·rw[kr e];exact s2
   dis:=λj k w w' b cj ck ne hj hk sj sk=>by
    have e1:i≠j:=λz=>by subst z;rw[jF] at cj;cases cj
    have e2:i≠k:=λz=>by subst z;rw[jF] at ck;cases ck
    rw[kr e1] at cj;rw[kr e2] at ck;exact r.dis j k w w' b cj ck ne hj hk sj sk
   mu:=r.mu
   sup:=r.sup
   out:=r.out
   bas:=r.bas
   io0:=io0
   len:=r.len}
theorem cL.reun (r:cL K (G.un i) Z A ρ σ H):cL K G Z A (ρ.set i none) σ H where
 slot:=λj w hj=>by
  rcases cS hj with⟨rfl,e⟩|⟨ne,e⟩
  ·cases e
  ·obtain⟨v,s1,s2⟩:=r.slot j w e;rw[kr ne] at s2;exact⟨v,s1,s2⟩
 dis:=λj k w w' a cj ck ne hj hk sj sk=>by
  rcases cS hj with⟨rfl,e⟩|⟨n1,e1⟩
  ·cases e
  ·rcases cS hk with⟨rfl,e⟩|⟨n2,e2⟩
   ·cases e
   ·exact r.dis j k w w' a (by rw[kr n1];exact cj) (by rw[kr n2];exact ck) ne e1 e2 sj sk
 mu:=r.mu
 sup:=r.sup
 out:=r.out
 bas:=r.bas
 io0:=λh=>by
  obtain⟨a,b⟩:=r.io0 h;refine⟨a,?_⟩;by_cases e:i=0
  ·subst e;rw[jF] at b;cases b
  ·rw[kr e] at b;exact b
 len:=by rw[abQ];exact r.len
end
noncomputable def BO (i:Nat)(g:Ev->SR):Ev->SR:=λρ=>match g ρ with
 | .nx ρ'=>.nx (ρ'.set i none)
 | .bk ρ'=>.bk (ρ'.set i none)
 | .ct ρ'=>.ct (ρ'.set i none)
 | .rt u ρ'=>.rt u (ρ'.set i none)
 |r=>r
section
variable {e:aca}{VO:List aeO}{m m1:Md}{g:Ev->SR}{g1:Ev->R (U×Ev)}{h1:Ev->R (Bool×Ev)}
theorem IU (hi:G.io=true->i≠0){D:oP}(h:S0 X.K G m (BO i g) D σ H):S0 X.K (G.un i) m g D σ H:=by
 obtain⟨Z,A,ρ,q,f⟩:=h;obtain⟨A',q'⟩:=q.un hi;refine⟨Z,A',ρ,q',?_⟩;unfold BO at f;cases e:g ρ with
 |nx=>rw[e] at f;exact λA2 σ2 H2 q2=>f A2 σ2 H2 q2.reun
 |bk=>rw[e] at f;exact λA2 σ2 H2 q2=>f A2 σ2 H2 q2.reun
 |ct=>rw[e] at f;exact λA2 σ2 H2 q2=>f A2 σ2 H2 q2.reun
 |rt=>rw[e] at f;exact λA2 σ2 H2 v q2 vm=>f A2 σ2 H2 v q2.reun vm
 |exc=>rw[e] at f;exact f
 |stk=>rw[e] at f;exact f.elim
def xO (i:Nat)(h:xt X (G.un i) m VO g)(hi:G.io=true->i≠0:=by decide):xt X G m VO (BO i g):=⟨h.un.to λ_ _ _ z=>IU hi z⟩
end
end L2
section
set_option maxHeartbeats 400000
namespace L2
open PySem PySem.Spec PyProof.Rows PySem.W
noncomputable abbrev Gm.w (G:Gm)(W:Hp->Prop):Gm:=⟨G.own,G.io,W⟩
section
variable {w:abq}{K:Frag}{base:acP}{cA:aak}{A:aba}{outer:List Env}{s0:aaD}{H0:Hp}{E:XK}{C:aaM}
variable {np cpos:Pos}{e0:aca}{t:TA}{m:Md}{c:String}
def zH (hx:mg x=some (.ref C))(hq:excIn K C zF "ValueError.__new__"=true)(hh:A.handled=none)
  (ha:PA (gG (BH P w C) P w K mg base N qual scope f cA A outer s0 H0 E) [e0] t) (ht:∀σ H (Q:List V->Hp->Prop),(∀xs H',xs.length<=aah->aJ H H'->Q xs H')->t σ H Q) (hW:∀H',G.W H'->E (.ref C) none H')
  (hg:Gl (gG (BH P w C) P w K mg base N qual scope f cA A outer s0 H0 E) x:=by rfl) (hd:(x==("__debug__":Str))=false:=by decide)
  (he:aaC [e0] (ac5 qual scope s0.heap.objs.size f cA)=(false,adB e0 (ac5 qual scope s0.heap.objs.size f cA))::aaC [] (ac5 qual scope s0.heap.objs.size f cA):=by rfl) :
  DS (gG (BH P w C) P w K mg base N qual scope f cA A outer s0 H0 E) G m (.Raise (some (.Call (.Name x np) [e0] [] cpos)) none pos) (λ_=>.exc c .non):=
 ⟨(HJ hx hq hh ha hg hd he).to λD σ H ⟨Z,A',ρ,q,f⟩=>ht σ H _ λxs H' l sm=>⟨l,hW _ (f H' λa o h=>sm a o (q.bas a o h))⟩⟩
end
section
variable {w:abq}{K:Frag}{base:acP}{C:aaM}
theorem Df.fnX (G:Gm)(m:Md)(s:Ev->SR)(d:Df K mg x st)(S:aK N ps (ai st))(hb:∀(kV kN pm:aak) (an:Option aaM) (cA ct:aak) (us:List aak),us.length=ps.length->afJ (abP x x (dC st) (bI st) (ai st) .none kV kN pm an cA ct) ⟨us,[]⟩=pure (ps.zip us))(yP:G.io=false)(i4:∀i,i<ps.length->G.is i=false)(eG:∀(f:aaM) (cA:aak) (A:aba) (outer:List Env) (s0:aaD) (H:Hp) (E:XK),dS k (A.deeper (ac5 x (ai st) s0.heap.objs.size f cA))->
   xt (gG (BH P w C) P w K mg base N x (ai st) f cA A outer s0 H E) (G.w λH'=>E (.ref C) none H') m (bI st) s) :
  ∃(f:aaM) (fd:adA),mg x=some (.ref f)/\acb K (.ref f)=true/\j9 K fd ps []/\iP P w K mg base (BH P w C) (k+1) f fd ps (Wa K ps.length C λus=>∃c u,dF m N.length s us=.exc c u):=by
 obtain⟨f,fd,mm,F⟩:=d.ex;refine⟨f,fd,mm,F.kp,F.binds hb,?_⟩;obtain⟨oc,od,kV,kN,pm,an,cA,ct,NB,rfl,lk,oJ⟩:=F.ex;refine NM lk oJ S (λvs H Q E ⟨us,A,r,_,l,_⟩=>by rw[←r.length];exact l) λA outer s1 H vs Q E hr ⟨us,A0,r,mu,l,⟨c,u,hx⟩,hE⟩=>⟨_,(eG f cA A outer s1 H E hr).un,?_⟩;refine⟨⟨A0,H,0⟩,A0,_,Ft r mu yP (λi hi=>i4 i (by rw[←l];exact hi)),?_⟩;unfold dF at hx;cases e:s _ with
 |exc=>exact λH' hb=>hE H' hb
 |nx=>rw[e] at hx;dsimp only at hx;split at hx<;>cases hx
 |rt=>rw[e] at hx;cases hx
 |bk=>rw[e] at hx;cases hx
 |ct=>rw[e] at hx;cases hx
 |stk=>rw[e] at hx;cases hx
end
end L2
end
namespace L2
open PySem.W
def XA (C:aaM)(th:TS)(D:oP)(σ:St):XK:=λ_ _ H2=>∀ea,H2 ea=none->th D σ (cT H2 ea (Uq ea C))
def US (C:aaM)(sp:Sp)(ta:TA)(th:TS):TS:=λD σ H=>ta σ H λvs H1=>sp vs H1 (λ_ _=>False) (XA C th D σ)
section
variable {C cc:aaM}{g cn:Str}{p cp rp np hpos xp:Pos}{a:aca}{as:List aca}{b0:aeO}{suite:List aeO}{ta:TA}{th:TS}
theorem Ms (F:iP X.prog X.w X.K X.mg X.base (BH X.prog X.w C) k f fd ps sp)(hr:dS k X.A)(hm:X.mg g=some (.ref f))(Z1:acb X.K (.ref f)=true)(hb:j9 X.K fd ps [])(gj:X.stack=X.env::X.outer)(Yf:X.env.frame=some X.env.locals)
  (hc:X.mg cn=some (.ref cc)) (VL:exmOne X.K (.ref C) (.ref cc)=some true) (ha:PA X.nox (a::as) ta) (hs:∀ea,vc (X.hand (.ref ea)) (b0::suite) th)
  (hg:Gl X g:=by rfl) (Yg:Gl X cn:=by rfl) (wR:(g==("__debug__":Str))=false:=by decide) (Yh:(cn==("__debug__":Str))=false:=by decide)
  (he:aaC (a::as) X.env=(false,adB a X.env)::aaC as X.env:=by rfl) (pY:(acq cp (aaC as X.env)).any (·.1)=false:=by rfl) (Wu:ado (.Call (.Name g p) (a::as) [] cp) (some (.Name x xp)) rp.line X.env=pure false:=by rfl) :
  PS X (.Try [.Assign [.Name x xp] (.Call (.Name g p) (a::as) [] cp) rp] [.ExceptHandler (some (.Name cn np)) none (b0::suite) hpos] [] [] pos) (US C sp ta th):=by
 intro pins s σ H D I h;have Z2:X.A.frames=some (X.env::X.outer):=by rw[←gj];exact I.ok.frames
 refine wpAny_Try_except ?_;refine wpAny_execs_cons (wpAny_Assign_Name ?_ Wu);refine aew (mS I hg hm ?_ wR);refine PySem.W.callWith_K I.ok.mod.kin Z1 (abk (ha cp pins s σ H _ (I.wish _) h) (λus s1 ⟨vs,H1,J1,r,q⟩=>⟨J1.unwish.kIn,?_⟩) λ_ _ z=>z.elim) he pY;have I1:=J1.unwish;have hl:us.length=ps.length:=by rw[←r.length];exact F.len _ _ _ _ q
 have Z3:=by
  have z:=hb s1 us I1.kIn (by rw[aa2];exact hl);rw[aa2] at z;exact z
 refine wpAny_call (ael (F.run X.A X.stack s1 H1 _ us vs _ _ hr I1.env0 Z3 r q) λr s' hq=>?_);cases r with
 |ok fl=>
  cases fl with
  |ret u=>
   obtain⟨v,H',_,_,_,_,_,z⟩:=hq;exact acB z
  |next=>exact acB hq
  |brk=>exact acB hq
  |cont=>exact acB hq
 |error e=>
  obtain⟨ea,t,L,B,rh,H2,rfl,os,bare,Fl,fl,up,nr,hE⟩:=hq;rw[gj] at fl;have n0:s1.heap.get? ea=none:=by
   cases z:s1.heap.get? ea with
   |none=>rfl
   |some ob=>
    obtain⟨o',z'⟩:=Fl.un.there ea ob z (by simp);rw[nr] at z';cases z'
  have n1:H2 ea=none:=by
   cases z:H2 ea with
   |none=>rfl
   |some ob=>
    obtain⟨o',z'⟩:=HK (Fl.hok ea ob z);rw[nr] at z';cases z'
  obtain⟨hh,gg,dd,tt,oo⟩:=s';subst os;refine wpAny_looks_onW Z2 Yf fl λh4 VT Zb=>?_;refine wpAny_landsW VT λh5 Yi Zc=>?_;have I5:=I1.fly (d':=dd) (t':=tt) Fl Yi.1 (up.trans (Zb.trans Zc)) bare;refine wpAny_handleBy_cons (codeAny_handlers_test ?_) (by intro q;cases q);refine mS (I5.hand _) Yg hc ?_ Yh;obtain⟨ob,Zo,hoc⟩:=Yi.there;have LT:Looks (aa1 X.prog X.w) h5 (typeOf (.ref ea)) (.ref C):=hoc▸(Looks.ld Zo).andThen .now;refine (exm_one I5.kIn LT VL).at ?_;refine codeAny_handlers_suite ?_;refine lands_againW Yi λh6 Zd Z4=>?_;have I6:=I1.fly (d':=dd) (t':=tt) Fl Zd.1 ((up.trans (Zb.trans Zc)).trans Z4) bare;have I7:=aE.track I1 n0 I6 n1 (Mj Zd.there);refine abk (hs ea pins _ _ _ _ (I7.hand (.ref ea)) (hE ea n1)) (λfl s9 hq=>?_) λ_ _ z=>z.elim;cases fl with
  |next=>
   obtain⟨σ',H',J,z⟩:=hq;exact⟨_,_,aE.unhand I.ok J,z⟩
  |brk=>
   obtain⟨σ',H',J,z⟩:=hq;exact⟨_,_,aE.unhand I.ok J,z⟩
  |cont=>
   obtain⟨σ',H',J,z⟩:=hq;exact⟨_,_,aE.unhand I.ok J,z⟩
  |ret u=>
   obtain⟨v,σ',H',J,rv,z⟩:=hq;exact⟨v,_,_,aE.unhand I.ok J,rv,z⟩
end
end L2
namespace L2
open PySem.W
noncomputable def zI (i n:Nat)(f:List U->R U)(ga:Ev->R (List U×Ev)):Ev->SR:=λρ=>SR.of (ga ρ) λx=>match sP n f x.1 with
 | .ok z=>.nx (x.2.set i (some z))
 | .exc _ _=>.nx (x.2.set i (some .non))
 | .stk=>.stk
section
variable {m mr:Md}{C cc:aaM}{g cn:Str}{p cp rp np hpos xp xp2 p3 rp2:Pos}{kk:Nat}{a:aca}{as:List aca}{f:List U->R U}{ga:Ev->R (List U×Ev)}
theorem Dy (F:Fn X.prog X.w X.K X.mg X.base g k ps (j8 X.K n f mr))(R:∃(a:aaM) (fd:adA),X.mg g=some (.ref a)/\keepIn X.K (.ref a)=true/\j9 X.K fd ps []/\iP X.prog X.w X.K X.mg X.base (BH X.prog X.w C) k a fd ps (Wa X.K n C λus=>∃c u,f us=.exc c u))(hr:dS k X.A)
  (hc:X.mg cn=some (.ref cc)) (VL:exmOne X.K (.ref C) (.ref cc)=some true) (hN:X.N.Nodup) (ha:DA X.nox G (a::as) false false ga) (gj:X.stack=X.env::X.outer:=by rfl) (Yf:X.env.frame=some X.env.locals:=by rfl)
  (hn:mr≠.P:=by decide) (c:G.is i=false:=by rfl) (hi:X.N[i]? = some x:=by rfl) (hx:Gv X.env.scope x:=by first|exact Or.inl rfl|exact Or.inr rfl)
  (hg:Gl X g:=by rfl) (Yg:Gl X cn:=by rfl) (wR:(g==("__debug__":Str))=false:=by decide) (Yh:(cn==("__debug__":Str))=false:=by decide)
  (he:aaC (a::as) X.env=(false,adB a X.env)::aaC as X.env:=by rfl) (pY:(acq cp (aaC as X.env)).any (·.1)=false:=by rfl) (Wu:ado (.Call (.Name g p) (a::as) [] cp) (some (.Name x xp)) rp.line X.env=pure false:=by rfl)
  (qN:ado (.Constant .none kk p3) (some (.Name x xp2)) rp2.line X.env=pure false:=by rfl) (hf:X.fn x=true\/X.env.scope.names.lookup x=some .local:=by first|exact .inl rfl|exact .inr rfl|assumption) :
  DS X G m (.Try [.Assign [.Name x xp] (.Call (.Name g p) (a::as) [] cp) rp] [.ExceptHandler (some (.Name cn np)) none [.Assign [.Name x xp2] (.Constant .none kk p3) rp2] hpos] [] [] pos) (zI i n f ga):=⟨λpins s σ H D I h00=>by
 obtain⟨Z,A,ρ,q,fit0⟩:=h00;obtain⟨⟨us,ρ1⟩,e1,fit⟩:=qV.of fit0;cases e2:sP n f us with
 |stk=>rw[e2] at fit;exact fit.elim
 |ok z=>
  rw[e2] at fit;refine (Mm (m:=m) (aq (aO hN (aB F hr ha hg wR he pY) hi hx c hn Wu hf))).un pins s σ H D I ⟨Z,A,ρ,q,?_⟩;have:aY i (eR n f ga) ρ=.nx (ρ1.set i (some z)):=by
   unfold aY eR;rw[e1];show SR.of ((sP n f us).bind _) _=_;rw[e2];rfl
  rw[this];exact fit
 |exc c0 u0=>
  rw[e2] at fit;obtain⟨a1,fd,h1,h2,h3,F1⟩:=R;refine Ms F1 hr h1 h2 h3 gj Yf hc VL ha.un (λea=>CG (w9 hN hi hx Gw qN hf)) hg Yg wR Yh he pY Wu pins s σ H D I ⟨Z,A,ρ,q,?_⟩;rw[e1];intro vs H1 q1 x1 s1 vm;have hu:us.length=n/\f us=.exc c0 u0:=by
   unfold sP at e2;split at e2
   ·rename_i hl;exact⟨hl,e2⟩
   ·cases e2
  refine⟨us,A,vm.rps,q1.mu,hu.1,⟨c0,u0,hu.2⟩,λH' sm ea Z5=>?_⟩;exact fit A _ _ ((q1.same (sm.updN Z5)).set c (by rfl))⟩
end
end L2
namespace Hc.Ts
noncomputable def iK:Bool->aaT->Array aaT->Nat->Nat->Nat->StateT aaS Sem (Option Nat):=sortPriv% PySem.Builtin.gallop
noncomputable def jG (left:Bool)(key:aaT)(u9:Array aaT)(base i:Nat):StateT aaS Sem (Option Bool):=do
 let x ←elem' u9 (base+i)
 if left then lt' x key else return (←lt' key x).map (!·)
section
variable {A:aba}
noncomputable def Q9 (left:Bool)(key:aaT)(u9:Array aaT)(base n Z6 Yj:Nat):StateT aaS Sem (Option Nat):=do
 let mut lo:=Z6
 let mut hi:=Yj
 for _ in [0:n] do
  if lo≥hi then break
  let m:=lo+(hi-lo) / 2
  let some more ←jG left key u9 base m|return none
  if more then lo:=m+1 else hi:=m
 return some hi
theorem Dz {left:Bool}{key:aaT}{lo hi:Nat}{st:aaS}{Q:Option Nat->aaS->Prop}(b:Nat->Bool)(hb:∀i,i<n->∀Q:Option Bool->aaS->Prop,Q (some (b i)) st->wpS M A E s (jG left key u9 base i) Q st)(mono:∀i j,i<=j->j<n->b j=true->b i=true)(h1:lo<=hi)(h2:hi<=n)(hl:∀i,i<lo->b i=true)(hr:∀i,hi<=i->i<n->b i=false)(h:∀k,k<=n->(∀i,i<k->b i=true)->(∀i,k<=i->i<n->b i=false)->Q (some k) st):wpS M A E s (Q9 left key u9 base n lo hi) Q st:=by
 refine aaF (ac2 (abS (I:=λx c aN=>aN=st/\∃l r,c=(none,l,r)/\l<=r/\r<=n/\r-l<=n-x/\(∀i,i<l->b i=true)/\∀i,r<=i->i<n->b i=false)
  (Q:=λc aN=>aN=st/\∃k,c=(none,k,k)/\k<=n/\(∀i,i<k->b i=true)/\∀i,k<=i->i<n->b i=false) ?step ?fin ⟨rfl,lo,hi,rfl,h1,h2,by lia,hl,hr⟩) ?post)
 case fin=>
  rintro c aN ⟨rfl,l,r,rfl,a1,a2,a3,a4,a5⟩;have:l=r:=by lia
  subst this;exact⟨rfl,l,rfl,a2,a4,a5⟩
 case step=>
  rintro x c aN _ hx ⟨rfl,l,r,rfl,a1,a2,a3,a4,a5⟩;dsimp only;by_cases c:l≥r
  ·rw[h9 c];have:l=r:=by lia
   subst this;exact aaO ⟨rfl,l,rfl,a2,a4,a5⟩
  ·rw[hZ c];refine aaF (hb _ (by lia) _ ?_);cases e:b _ with
   |true=>
    exact aaO ⟨rfl,_,r,rfl,by lia,a2,by lia,λi hi=>mono i _ (by lia) (by lia) e,a5⟩
   |false=>
    refine aaO ⟨rfl,l,_,rfl,by lia,by lia,by lia,a4,λi h1 h2=>?_⟩;cases e2:b i with
    |false=>rfl
    |true=>rw[mono _ i h1 h2 e2] at e;cases e
 case post=>
  rintro c aN ⟨rfl,k,rfl,a1,a2,a3⟩;exact aaO (h k a1 a2 a3)
theorem wq {left:Bool}{key:aaT}{hint:Nat}{st:aaS}{Q:Option Nat->aaS->Prop}(b:Nat->Bool)(hb:∀i,i<n->∀Q:Option Bool->aaS->Prop,Q (some (b i)) st->wpS M A E s (jG left key u9 base i) Q st)(mono:∀i j,i<=j->j<n->b j=true->b i=true)(hh:hint<n)(h:∀k,k<=n->(∀i,i<k->b i=true)->(∀i,k<=i->i<n->b i=false)->Q (some k) st):wpS M A E s (iK left key u9 base n hint) Q st:=by
 have Ze:∀i j,i<=j->j<n->b i=false->b j=false:=λi j h1 h2 e=>by
  cases e2:b j with
  |false=>rfl
  |true=>rw[mono i j h1 h2 e2] at e;cases e
 refine aaF (hb hint hh _ ?_);cases e0:b hint with
 |true=>
  refine aaF (ac2 (abS (I:=λx c aN=>aN=st/\∃l o,c=(none,l,o)/\l<o/\x+1<=o/\hint+l<n/\b (hint+l)=true)
   (Q:=λc aN=>aN=st/\∃l o,c=(none,l,o)/\l<o/\hint+l<n/\b (hint+l)=true/\(o≥n-hint\/b (hint+o)=false)) ?step ?fin ⟨rfl,0,1,rfl,by lia,by lia,hh,e0⟩) ?post)
  case fin=>
   rintro c aN ⟨rfl,l,o,rfl,a1,a2,a3,a4⟩;exact⟨rfl,l,o,rfl,a1,a3,a4,.inl (by lia)⟩
  case step=>
   rintro x c aN _ hx ⟨rfl,l,o,rfl,a1,a2,a3,a4⟩;dsimp only;by_cases c:o≥n-hint
   ·rw[h9 c];exact aaO ⟨rfl,l,o,rfl,a1,a3,a4,.inl c⟩
   ·rw[hZ c];refine aaF (hb _ (by lia) _ ?_);cases e:b _ with
    |true=>
     exact aaO ⟨rfl,o,_,rfl,by lia,by lia,by lia,e⟩
    |false=>
     exact aaO ⟨rfl,l,o,rfl,a1,a3,a4,.inr e⟩
  case post=>
   rintro c aN ⟨rfl,l,o,rfl,a1,a3,a4,a5⟩;show wpS _ _ _ _ (Q9 left key u9 base n (hint+l+1) (hint+min o _)) _ _;refine Dz b hb mono (by lia) (by lia) (λi hi=>mono i _ (by lia) a3 a4) (λi h1 h2=>?_) h;rcases a5 with a5|a5
   ·lia
   ·by_cases c:o<=n-hint
    ·rw[acf c] at h1;exact Ze _ i h1 h2 a5
    ·lia
 |false=>
  refine aaF (ac2 (abS (I:=λx c aN=>aN=st/\∃l o,c=(none,l,o)/\l<o/\x+1<=o/\l<=hint/\b (hint-l)=false)
   (Q:=λc aN=>aN=st/\∃l o,c=(none,l,o)/\l<o/\l<=hint/\b (hint-l)=false/\(o≥hint+1\/b (hint-o)=true)) ?step ?fin ⟨rfl,0,1,rfl,by lia,by lia,by lia,e0⟩) ?post)
  case fin=>
   rintro c aN ⟨rfl,l,o,rfl,a1,a2,a3,a4⟩;exact⟨rfl,l,o,rfl,a1,a3,a4,.inl (by lia)⟩
  case step=>
   rintro x c aN _ hx ⟨rfl,l,o,rfl,a1,a2,a3,a4⟩;dsimp only;by_cases c:o≥hint+1
   ·rw[h9 c];exact aaO ⟨rfl,l,o,rfl,a1,a3,a4,.inl c⟩
   ·rw[hZ c];refine aaF (hb _ (by lia) _ ?_);cases e:b _ with
    |true=>
     exact aaO ⟨rfl,l,o,rfl,a1,a3,a4,.inr e⟩
    |false=>
     exact aaO ⟨rfl,o,_,rfl,by lia,by lia,by lia,e⟩
  case post=>
   rintro c aN ⟨rfl,l,o,rfl,a1,a3,a4,a5⟩;show wpS _ _ _ _ (Q9 left key u9 base n (hint+1-min o _) (hint-l)) _ _;refine Dz b hb mono (by lia) (by lia) (λi hi=>?_) (λi h1 h2=>Ze _ i h1 h2 a4) h;rcases a5 with a5|a5
   ·lia
   ·by_cases c:o<=hint+1
    ·exact mono i _ (by lia) (by lia) a5
    ·lia
end
end Hc.Ts
namespace Hc.Ts
section
variable {O:agb}(key:aaT->O.α)
def iE (l:List aaT):Prop:=l.Pairwise λx y=>O.kle (key x) (key y)
structure MI (T o ra rb:List aaT):Prop where
 perm:(o++(ra++rb)).Perm T
 so:iE key o
 sa:iE key ra
 sb:iE key rb
 oa:∀x∈o,∀y∈ra,O.kle (key x) (key y)
 ob:∀x∈o,∀y∈rb,O.kle (key x) (key y)
structure MH (T ra rb o:List aaT):Prop where
 perm:((ra++rb)++o).Perm T
 so:iE key o
 sa:iE key ra
 sb:iE key rb
 oa:∀x∈ra,∀y∈o,O.kle (key x) (key y)
 ob:∀x∈rb,∀y∈o,O.kle (key x) (key y)
variable {key}
def bL {l r:List aaT}:iE key (l++r)↔iE key l/\iE key r/\∀x∈l,∀y∈r,O.kle (key x) (key y):=List.pairwise_append
theorem MI.stepA {x:List aaT}(h:MI key T o (x++ra) rb)(hx:∀a∈x,∀b∈rb,O.kle (key a) (key b)):MI key T (o++x) ra rb:=by
 obtain⟨s1,s2,s3⟩:=bL.mp h.sa;refine⟨?_,bL.mpr ⟨h.so,s1,λa ha b hb=>h.oa a ha b (abX _ hb)⟩,s2,h.sb,λa ha b hb=>?_,λa ha b hb=>?_⟩
 ·have e:o++x++(ra++rb)=o++(x++ra++rb):=by simp[aaP]
  rw[e];exact h.perm
 ·rcases aaQ.mp ha with ha|ha
  ·exact h.oa a ha b (aaU _ hb)
  ·exact s3 a ha b hb
 ·rcases aaQ.mp ha with ha|ha
  ·exact h.ob a ha b hb
  ·exact hx a ha b hb
theorem MI.stepB {y:List aaT}(h:MI key T o ra (y++rb))(hy:∀b∈y,∀a∈ra,O.kle (key b) (key a)):MI key T (o++y) ra rb:=by
 obtain⟨s1,s2,s3⟩:=bL.mp h.sb;refine⟨?_,bL.mpr ⟨h.so,s1,λa ha b hb=>h.ob a ha b (abX _ hb)⟩,h.sa,s2,λa ha b hb=>?_,λa ha b hb=>?_⟩
 ·refine age.trans ?_ h.perm;have e:o++y++(ra++rb)=o++((y++ra)++rb):=by simp[aaP]
  have e2:o++(ra++(y++rb))=o++((ra++y)++rb):=by simp[aaP]
  rw[e,e2];exact ab8 o (abZ rb abD)
 ·rcases aaQ.mp ha with ha|ha
  ·exact h.oa a ha b hb
  ·exact hy a ha b hb
 ·rcases aaQ.mp ha with ha|ha
  ·exact h.ob a ha b (aaU _ hb)
  ·exact s3 a ha b hb
def MI.endA (h:MI key T o ra []):(o++ra).Perm T/\iE key (o++ra):=by
 refine⟨?_,bL.mpr ⟨h.so,h.sa,h.oa⟩⟩;have:=h.perm;rw[aa2] at this;exact this
def MI.endB (h:MI key T o [] rb):(o++rb).Perm T/\iE key (o++rb):=⟨h.perm,bL.mpr ⟨h.so,h.sb,h.ob⟩⟩
theorem MI.last (h:MI key T o ra rb)(hl:∀b∈rb,∀a∈ra,O.kle (key b) (key a)):(o++(rb++ra)).Perm T/\iE key (o++(rb++ra)):=
 ⟨(ab8 o abD).trans h.perm,bL.mpr ⟨h.so,bL.mpr ⟨h.sb,h.sa,hl⟩,λa ha b hb=>by
  rcases aaQ.mp hb with hb|hb
  ·exact h.ob a ha b hb
  ·exact h.oa a ha b hb⟩⟩
theorem MH.stepA {x:List aaT}(h:MH key T (ra++x) rb o)(hx:∀b∈rb,∀a∈x,O.kle (key b) (key a)):MH key T ra rb (x++o):=by
 obtain⟨s1,s2,s3⟩:=bL.mp h.sa;refine⟨?_,bL.mpr ⟨s2,h.so,λa ha b hb=>h.oa a (aaU _ ha) b hb⟩,s1,h.sb,λa ha b hb=>?_,λa ha b hb=>?_⟩
 ·refine age.trans ?_ h.perm;have e:ra++rb++(x++o)=(ra++(rb++x))++o:=by simp[aaP]
  have e2:ra++x++rb++o=(ra++(x++rb))++o:=by simp[aaP]
  rw[e,e2];exact abZ o (ab8 ra abD)
 ·rcases aaQ.mp hb with hb|hb
  ·exact s3 a ha b hb
  ·exact h.oa a (abX _ ha) b hb
 ·rcases aaQ.mp hb with hb|hb
  ·exact hx a ha b hb
  ·exact h.ob a ha b hb
theorem MH.stepB {y:List aaT}(h:MH key T ra (rb++y) o)(hy:∀a∈ra,∀b∈y,O.kle (key a) (key b)):MH key T ra rb (y++o):=by
 obtain⟨s1,s2,s3⟩:=bL.mp h.sb;refine⟨?_,bL.mpr ⟨s2,h.so,λa ha b hb=>h.ob a (aaU _ ha) b hb⟩,h.sa,s1,λa ha b hb=>?_,λa ha b hb=>?_⟩
 ·have e:ra++rb++(y++o)=ra++(rb++y)++o:=by simp[aaP]
  rw[e];exact h.perm
 ·rcases aaQ.mp hb with hb|hb
  ·exact hy a ha b hb
  ·exact h.oa a ha b hb
 ·rcases aaQ.mp hb with hb|hb
  ·exact s3 a ha b hb
  ·exact h.ob a (abX _ ha) b hb
def MH.endB (h:MH key T [] rb o):(rb++o).Perm T/\iE key (rb++o):=⟨h.perm,bL.mpr ⟨h.sb,h.so,h.ob⟩⟩
def MH.endA (h:MH key T ra [] o):(ra++o).Perm T/\iE key (ra++o):=by
 refine⟨?_,bL.mpr ⟨h.sa,h.so,h.oa⟩⟩;have:=h.perm;rw[aa2] at this;exact this
theorem MH.first (h:MH key T ra rb o)(hl:∀b∈rb,∀a∈ra,O.kle (key b) (key a)):((rb++ra)++o).Perm T/\iE key ((rb++ra)++o):=
 ⟨(abZ o abD).trans h.perm,bL.mpr ⟨bL.mpr ⟨h.sb,h.sa,hl⟩,h.so,λa ha b hb=>by
  rcases aaQ.mp ha with ha|ha
  ·exact h.ob a ha b hb
  ·exact h.oa a ha b hb⟩⟩
end
structure l6 (M:Model)(A:aba)(E:aak->aaD->Prop)(s:aaD)(O:agb)(key:aaT->O.α)(knd:aeG)(D:aaT->Prop):Prop where
 lt:∀(x y:aaT) (st:aaS) (Q:Option Bool->aaS->Prop),D x->D y->abY st=knd->Q (some (O.blt (key x) (key y))) st->wpS M A E s (lt' x y) Q st
section
variable {A:aba}{O:agb}{key:aaT->O.α}{knd:aeG}{D:aaT->Prop}
def bU {x:aaT}{st:aaS}{Q:aaT->aaS->Prop}(h:u9.toList[i]? = some x)(q:Q x st):wpS M A E s (elem' u9 i) Q st:=by
 have h:u9[i]? = some x:=by rw[←aa5];exact h
 rw[elem'_eq,h];exact aaO q
theorem l7 (C:l6 M A E s O key knd D){kx:aaT}{hint:Nat}{p0:List aaT}{st:aaS}{Q:Option Nat->aaS->Prop}(SN:∀i x,p0[i]? = some x->u9.toList[base+i]? = some x)(hs:iE key p0)(hD:∀x∈p0,D x)(hk:D kx)(kd:abY st=knd)(hh:hint<p0.length)(h:∀k,k<=p0.length->(∀x∈p0.take k,O.kle (key x) (key kx))->(∀x∈p0.drop k,O.klt (key kx) (key x))->Q (some k) st):wpS M A E s (iK false kx u9 base p0.length hint) Q st:=by
 have at_:∀i,(hi:i<p0.length)->p0[i]? = some p0[i]:=λi hi=>aac hi;refine wq (λi=> !(match p0[i]? with|some x=>O.blt (key kx) (key x)|none=>false)) (λi hi Q q=>?_) (λi j A8 hj e=>?_) hh λk Gq h1 h2=>h k Gq (λx hx=>?_) λx hx=>?_
 ·rw[at_ i hi] at q;refine aaF (bU (SN i _ (at_ i hi)) ?_);exact aaF (C.lt _ _ st _ hk (hD _ (aaH hi)) kd (aaO q))
 ·have hi:i<p0.length:=by lia
  simp only[at_ i hi,at_ j hj,af1] at e ⊢;by_cases c:i=j
  ·subst c;exact e
  ·have:=ac4.mp hs i j hi hj (by lia);exact aa8 this e
 ·obtain⟨i,hi,rfl⟩:=abM.mp hx;rw[aaE] at hi;have:=h1 i (by lia);simp only[at_ i (by lia),af1] at this;rw[adT];exact this
 ·obtain⟨i,hi,rfl⟩:=abM.mp hx;rw[abb] at hi;have:=h2 (k+i) (by lia) (by lia);simp only[at_ (k+i) (by lia),Bool.not_eq_false'] at this;rw[List.getElem_drop];exact this
theorem l9 (C:l6 M A E s O key knd D){kx:aaT}{hint:Nat}{p0:List aaT}{st:aaS}{Q:Option Nat->aaS->Prop}(SN:∀i x,p0[i]? = some x->u9.toList[base+i]? = some x)(hs:iE key p0)(hD:∀x∈p0,D x)(hk:D kx)(kd:abY st=knd)(hh:hint<p0.length)(h:∀k,k<=p0.length->(∀x∈p0.take k,O.klt (key x) (key kx))->(∀x∈p0.drop k,O.kle (key kx) (key x))->Q (some k) st):wpS M A E s (iK true kx u9 base p0.length hint) Q st:=by
 have at_:∀i,(hi:i<p0.length)->p0[i]? = some p0[i]:=λi hi=>aac hi;refine wq (λi=>match p0[i]? with|some x=>O.blt (key x) (key kx)|none=>false) (λi hi Q q=>?_) (λi j A8 hj e=>?_) hh λk Gq h1 h2=>h k Gq (λx hx=>?_) λx hx=>?_
 ·rw[at_ i hi] at q;refine aaF (bU (SN i _ (at_ i hi)) ?_);exact C.lt _ _ st _ (hD _ (aaH hi)) hk kd q
 ·have hi:i<p0.length:=by lia
  simp only[at_ i hi,at_ j hj] at e ⊢;by_cases c:i=j
  ·subst c;exact e
  ·have:=ac4.mp hs i j hi hj (by lia);exact KeyOrd.klt_of_kle_of_klt this e
 ·obtain⟨i,hi,rfl⟩:=abM.mp hx;rw[aaE] at hi;have:=h1 i (by lia);simp only[at_ i (by lia)] at this;rw[adT];exact this
 ·obtain⟨i,hi,rfl⟩:=abM.mp hx;rw[abb] at hi;have:=h2 (k+i) (by lia) (by lia);simp only[at_ (k+i) (by lia)] at this;rw[List.getElem_drop];exact this
end
end Hc.Ts
namespace Hc.Ts
noncomputable abbrev eh (st:aaS)(g:Nat):aaS:=SortSt.mk' (abY st) (abA st) (abj st) g (aeH st)
noncomputable def fS (g:Nat):StateT aaS Sem Unit:=modify λs=>eh s g
noncomputable def tZ:Array aaT->Array aaT->StateT aaS Sem (Array aaT):=sortPriv% PySem.Builtin.mergeLo
noncomputable abbrev OZ:=Option (Array aaT)×Array aaT×Nat×Nat×Nat×Nat×Nat
noncomputable abbrev S2:=Option (Array aaT)×Array aaT×Nat×Nat×Nat×Nat
noncomputable abbrev We:=Option (Array aaT)×Array aaT×Nat×Nat×Nat
noncomputable def gx (a b out:Array aaT)(ia ib:Nat):Array aaT:=out++a.extract ia a.size++b.extract ib b.size
noncomputable def l_ (a b out:Array aaT)(ia ib:Nat):Array aaT:=out++b.extract ib b.size++a.extract ia a.size
noncomputable def Q_ (a b out:Array aaT)(ia ib g k k1:Nat):StateT aaS Sem (ForInStep OZ):=do
 let x ←elem' a ia
 if (ia+1+1==a.size)=true then pure (.done (some (l_ a b (out.push x) (ia+1) ib),out.push x,ia+1,ib,g,k,k1))
 else if (decide (k<7)&&decide (k1<7))=true then pure (.done (none,out.push x,ia+1,ib,g,k,k1))
 else pure (.yield (none,out.push x,ia+1,ib,g,k,k1))
noncomputable def Ra (a b out:Array aaT)(ia ib g k bc:Nat):StateT aaS Sem (ForInStep OZ):=do
 let y ←elem' b ib
 if (ib+1==b.size)=true then pure (.done (some (gx a b (out.push y) ia (ib+1)),out.push y,ia,ib+1,g,k,bc))
 else do
  let x ←elem' a ia
  let some k1 ←iK true x b (ib+1) (b.size-(ib+1)) 0|pure (.done (some (gx a b (out.push y) ia (ib+1)),out.push y,ia,ib+1,g,k,bc))
  if k1>0 then
   if (ib+1+k1==b.size)=true then pure (.done (some (gx a b (out.push y++b.extract (ib+1) (ib+1+k1)) ia (ib+1+k1)),out.push y++b.extract (ib+1) (ib+1+k1),ia,ib+1+k1,g,k,k1))
   else Q_ a b (out.push y++b.extract (ib+1) (ib+1+k1)) ia (ib+1+k1) g k k1
  else Q_ a b (out.push y) ia (ib+1) g k k1
noncomputable def Rb (a b out:Array aaT)(ia ib g ac bc:Nat):StateT aaS Sem (ForInStep OZ):=do
 fS g
 let y ←elem' b ib
 let some k ←iK false y a ia (a.size-ia) 0|pure (.done (some (gx a b out ia ib),out,ia,ib,g,ac,bc))
 if k>0 then
  if (ia+k+1==a.size)=true then pure (.done (some (l_ a b (out++a.extract ia (ia+k)) (ia+k) ib),out++a.extract ia (ia+k),ia+k,ib,g,k,bc))
  else if (ia+k==a.size)=true then pure (.done (some (gx a b (out++a.extract ia (ia+k)) (ia+k) ib),out++a.extract ia (ia+k),ia+k,ib,g,k,bc))
  else Ra a b (out++a.extract ia (ia+k)) (ia+k) ib g k bc
 else Ra a b out ia ib g k bc
noncomputable def Xq (a b:Array aaT)(_:Nat)(c:OZ):StateT aaS Sem (ForInStep OZ):=
 if c.2.2.2.2.1>1 then Rb a b c.2.1 c.2.2.1 c.2.2.2.1 (c.2.2.2.2.1-1) c.2.2.2.2.2.1 c.2.2.2.2.2.2
 else Rb a b c.2.1 c.2.2.1 c.2.2.2.1 c.2.2.2.2.1 c.2.2.2.2.2.1 c.2.2.2.2.2.2
noncomputable def YL (a b:Array aaT)(g:Nat)(_:Nat)(c:S2):StateT aaS Sem (ForInStep S2):=do
 let y ←elem' b c.2.2.2.1
 let x ←elem' a c.2.2.1
 let some bWins ←lt' y x|pure (.done (some (gx a b c.2.1 c.2.2.1 c.2.2.2.1),c.2.1,c.2.2.1,c.2.2.2.1,c.2.2.2.2.1,c.2.2.2.2.2))
 if bWins=true then do
   let y ←elem' b c.2.2.2.1
   if (c.2.2.2.1+1==b.size)=true then pure (.done (some (gx a b (c.2.1.push y) c.2.2.1 (c.2.2.2.1+1)),c.2.1.push y,c.2.2.1,c.2.2.2.1+1,0,c.2.2.2.2.2+1))
   else if c.2.2.2.2.2+1≥g then pure (.done (none,c.2.1.push y,c.2.2.1,c.2.2.2.1+1,0,c.2.2.2.2.2+1))
   else pure (.yield (none,c.2.1.push y,c.2.2.1,c.2.2.2.1+1,0,c.2.2.2.2.2+1))
 else do
   let x ←elem' a c.2.2.1
   if (c.2.2.1+1+1==a.size)=true then pure (.done (some (l_ a b (c.2.1.push x) (c.2.2.1+1) c.2.2.2.1),c.2.1.push x,c.2.2.1+1,c.2.2.2.1,c.2.2.2.2.1+1,0))
   else if c.2.2.2.2.1+1≥g then pure (.done (none,c.2.1.push x,c.2.2.1+1,c.2.2.2.1,c.2.2.2.2.1+1,0))
   else pure (.yield (none,c.2.1.push x,c.2.2.1+1,c.2.2.2.1,c.2.2.2.2.1+1,0))
noncomputable def YM (a b:Array aaT)(_:Nat)(c:We):StateT aaS Sem (ForInStep We):=do
 let d ←forIn [0:a.size+b.size] (none,c.2.1,c.2.2.1,c.2.2.2.1,0,0) (YL a b c.2.2.2.2)
 match d.1 with
 |some r=>pure (.done (some r,d.2.1,d.2.2.1,d.2.2.2.1,c.2.2.2.2))
 |none=>do
  liftM (rule "list.sort.gallop")
  let e ←forIn [0:a.size+b.size] (none,d.2.1,d.2.2.1,d.2.2.2.1,c.2.2.2.2+1,d.2.2.2.2.1,d.2.2.2.2.2) (Xq a b)
  match e.1 with
  |some r=>pure (.done (some r,e.2.1,e.2.2.1,e.2.2.2.1,e.2.2.2.2.1))
  |none=>do
   fS (e.2.2.2.2.1+1)
   pure (.yield (none,e.2.1,e.2.2.1,e.2.2.2.1,e.2.2.2.2.1+1))
theorem xP (a b:Array aaT):tZ a b=(do
  liftM (rule "list.sort.merge-lo")
  let y ←elem' b 0
  if (1==b.size)=true then pure (gx a b #[y] 0 1)
  else if (0+1==a.size)=true then pure (l_ a b #[y] 0 1)
  else do
   let st ←get
   let c ←forIn [0:a.size+b.size] ((none,#[y],0,1,gallopOf st):We) (YM a b)
   match c.1 with
   |some r=>pure r
   |none=>liftM (unsupported "internal:list.sort.merge-bound")):=by kernel_rfl
section
variable {A:aba}{O:agb}{key:aaT->O.α}{knd:aeG}{D:aaT->Prop}
def rR (a:Array aaT)(i:Nat):(a.extract i a.size).toList=a.toList.drop i:=by
 rw[ad2];exact abN (by simp)
def xQ (a:Array aaT)(i k:Nat):(a.extract i (i+k)).toList=(a.toList.drop i).take k:=by
 rw[ad2,List.extract_eq_take_drop,abU]
def zJ (a b out:Array aaT)(ia ib:Nat):(gx a b out ia ib).toList=out.toList++(a.toList.drop ia++b.toList.drop ib):=by
 unfold gx;rw[abp,abp,rR,rR,aaP]
def IV (a b out:Array aaT)(ia ib:Nat):(l_ a b out ia ib).toList=out.toList++(b.toList.drop ib++a.toList.drop ia):=by
 unfold l_;rw[abp,abp,rR,rR,aaP]
def kR {l:List aaT}(h:i<l.length):l.drop i=[l[i]]++l.drop (i+1):=abK h
def t7 {l:List aaT}(i k:Nat):l.drop i=(l.drop i).take k++l.drop (i+k):=by rw[←afS,abg]
def rS (key:aaT->O.α)(T:List aaT)(r:Array aaT):Prop:=r.toList.Perm T/\iE key r.toList
structure LI (key:aaT->O.α)(T:List aaT)(a b out:Array aaT)(ia ib:Nat):Prop where
 ha:ia+1<a.size
 hb:ib<b.size
 mi:MI key T out.toList (a.toList.drop ia) (b.toList.drop ib)
structure LR (key:aaT->O.α)(D:aaT->Prop)(a b:Array aaT):Prop where
 da:∀x∈a.toList,D x
 db:∀x∈b.toList,D x
 last:∀i,i+1=a.size->∀y∈b.toList,∀x,a.toList[i]? = some x->O.kle (key y) (key x)
variable {a b out:Array aaT}{ia ib:Nat}
theorem LR.fin (R:LR key D a b)(h:MI key T out.toList (a.toList.drop ia) (b.toList.drop ib))(e:ia+1=a.size):rS key T (l_ a b out ia ib):=by
 unfold rS;rw[IV];refine h.last λy hy x hx=>?_;have hl:ia<a.toList.length:=by rw[aay];lia
 have hn:a.toList.drop (ia+1)=[]:=adz (by rw[aay];lia);rw[kR hl,hn,aa2,aaK] at hx;subst hx;exact R.last ia e y (acg hy) _ (aac hl)
theorem DC (h:MI key T out.toList (a.toList.drop ia) (b.toList.drop ib))(e:ib=b.size):rS key T (gx a b out ia ib):=by
 have hn:b.toList.drop ib=[]:=adz (by rw[aay];lia);unfold rS;rw[zJ];rw[hn] at h ⊢;rw[aa2];exact h.endA
theorem UT (h:MI key T out.toList (a.toList.drop ia) (b.toList.drop ib))(e:ia=a.size):rS key T (gx a b out ia ib):=by
 have hn:a.toList.drop ia=[]:=adz (by rw[aay];lia);unfold rS;rw[zJ];rw[hn] at h ⊢;exact h.endB
theorem ku {l:List aaT}(h:iE key (l.drop i))(hl:i<l.length):∀x∈l.drop i,O.kle (key l[i]) (key x):=by
 intro x hx;rw[kR hl] at h hx;rcases aaQ.mp hx with hx|hx
 ·rw[aaK] at hx;subst hx;exact ab3 _
 ·exact (bL.mp h).2.2 _ (by simp) x hx
theorem O0 (h:MI key T out.toList (a.toList.drop ia) (b.toList.drop ib))(hl:ia<a.toList.length)(hx:∀y∈b.toList.drop ib,O.kle (key a.toList[ia]) (key y)):MI key T (out.push a.toList[ia]).toList (a.toList.drop (ia+1)) (b.toList.drop ib):=by
 rw[adU];rw[kR hl] at h;exact h.stepA λx wV y hy=>by rw[aaK] at wV;subst wV;exact hx y hy
theorem IW (h:MI key T out.toList (a.toList.drop ia) (b.toList.drop ib))(hl:ib<b.toList.length)(hx:∀x∈a.toList.drop ia,O.kle (key b.toList[ib]) (key x)):MI key T (out.push b.toList[ib]).toList (a.toList.drop ia) (b.toList.drop (ib+1)):=by
 rw[adU];rw[kR hl] at h;exact h.stepB λx wV y hy=>by rw[aaK] at wV;subst wV;exact hx y hy
def GE (key:aaT->O.α)(T:List aaT)(a b:Array aaT)(n:Nat)(cK:aaS)(c:OZ)(st:aaS):Prop:=
 (∃g,st=eh cK g)/\((∃r,c.1=some r/\rS key T r)\/(c.1=none/\LI key T a b c.2.1 c.2.2.1 c.2.2.2.1/\n<=c.2.2.1+c.2.2.2.1))
def GS (key:aaT->O.α)(T:List aaT)(a b:Array aaT)(n:Nat)(cK:aaS)(r:ForInStep OZ)(st:aaS):Prop:=
 match r with
 | .done c=>GE key T a b n cK c st
 | .yield c=>GE key T a b n cK c st/\c.1=none
theorem DF (R:LR key D a b){k1:Nat}{st cK:aaS}(gj:∃g,st=eh cK g)(h:LI key T a b out ia ib)(hn:n<=ia+ib)(hx:∀(hl:ia<a.toList.length),∀y∈b.toList.drop ib,O.kle (key a.toList[ia]) (key y)) :
  wpS M A E s (Q_ a b out ia ib g k k1) (GS key T a b n cK) st:=by
 have hl:ia<a.toList.length:=by have:=h.ha;rw[aay];lia
 have m:=O0 h.mi hl (hx hl);refine aaF (bU (aac hl) ?_);by_cases c:ia+1+1=a.size
 ·rw[h9 (by simpa using c)];exact aaO ⟨gj,.inl ⟨_,rfl,R.fin m c⟩⟩
 ·rw[hZ (by simpa using c)];have L:LI key T a b _ (ia+1) ib:=⟨by have:=h.ha;lia,h.hb,m⟩;by_cases c2:(decide (k<7)&&decide (k1<7))=true
  ·rw[h9 c2];exact aaO ⟨gj,.inr ⟨rfl,L,by simp only;lia⟩⟩
  ·rw[hZ c2];exact aaO ⟨⟨gj,.inr ⟨rfl,L,by simp only;lia⟩⟩,rfl⟩
theorem DH (C:l6 M A E s O key knd D)(R:LR key D a b){st cK:aaS}(gj:∃g,st=eh cK g)(kd:abY cK=knd)(h:LI key T a b out ia ib)(hn:n<=ia+ib)(hx:∀(hl:ib<b.toList.length),∀x∈a.toList.drop ia,O.kle (key b.toList[ib]) (key x)) :
  wpS M A E s (Ra a b out ia ib g k bc) (GS key T a b n cK) st:=by
 have mM:=by have:=h.hb;omega
 have u_:ia<a.toList.length:=by have:=h.ha;rw[aay];lia
 have m:=IW h.mi mM (hx mM);have K0:abY st=knd:=by obtain⟨g,rfl⟩:=gj;exact kd
 refine aaF (bU (aac mM) ?_);by_cases c:ib+1=b.size
 ·rw[h9 (by simpa using c)];exact aaO ⟨gj,.inl ⟨_,rfl,DC m c⟩⟩
 ·rw[hZ (by simpa using c)];refine aaF (bU (aac u_) ?_);have fg:b.size-(ib+1)=(b.toList.drop (ib+1)).length:=by rw[abb,aay]
  rw[fg];refine aaF (l9 C (λi x e=>by rw[afM] at e;exact e) m.sb (λx hx=>R.db x (acg hx)) (R.da _ (aaH u_)) K0 (by lia) λk1 Gq p1 p2=>?_);dsimp only;by_cases c1:k1>0
  ·rw[h9 c1];have m2:MI key T (out.push b.toList[ib]++b.extract (ib+1) (ib+1+k1)).toList (a.toList.drop ia) (b.toList.drop (ib+1+k1)):=by
    rw[abp,xQ];have m':=m;rw[t7 (ib+1) k1] at m';exact m'.stepB λy hy x wV=>aa8 (abn (p1 y hy)) (ku h.mi.sa u_ x wV)
   by_cases c2:ib+1+k1=b.size
   ·rw[h9 (by simpa using c2)];exact aaO ⟨gj,.inl ⟨_,rfl,DC m2 c2⟩⟩
   ·rw[hZ (by simpa using c2)];refine DF R gj ⟨h.ha,by lia,m2⟩ (by lia) λhl y hy=>?_;rw[←afS] at hy;exact p2 y hy
  ·have:k1=0:=by lia
   subst this;refine DF R gj ⟨h.ha,by lia,m⟩ (by lia) λhl y hy=>p2 y hy
theorem DJ (C:l6 M A E s O key knd D)(R:LR key D a b){ac:Nat}{st cK:aaS}(gj:∃g,st=eh cK g)(kd:abY cK=knd)(h:LI key T a b out ia ib)(hn:n<=ia+ib) :
  wpS M A E s (Rb a b out ia ib g ac bc) (GS key T a b n cK) st:=by
 have mM:=by have:=h.hb;omega
 have A9:∃g',eh st g=eh cK g':=by obtain⟨g0,rfl⟩:=gj;exact⟨g,rfl⟩
 have K0:abY (eh st g)=knd:=by obtain⟨g0,rfl⟩:=gj;exact kd
 refine aaF (aer ?_);refine aaF (bU (aac mM) ?_);have fg:a.size-ia=(a.toList.drop ia).length:=by rw[abb,aay]
 rw[fg];refine aaF (l7 C (λi x e=>by rw[afM] at e;exact e) h.mi.sa (λx hx=>R.da x (acg hx)) (R.db _ (aaH mM)) K0 (by have:=h.ha;lia) λk hk p1 p2=>?_);dsimp only;by_cases c1:k>0
 ·rw[h9 c1];have m2:MI key T (out++a.extract ia (ia+k)).toList (a.toList.drop (ia+k)) (b.toList.drop ib):=by
   rw[abp,xQ];have m':=h.mi;rw[t7 ia k] at m';exact m'.stepA λx hx y hy=>aa8 (p1 x hx) (ku h.mi.sb mM y hy)
  by_cases c2:ia+k+1=a.size
  ·rw[h9 (by simpa using c2)];exact aaO ⟨A9,.inl ⟨_,rfl,R.fin m2 c2⟩⟩
  ·rw[hZ (by simpa using c2)];by_cases c3:ia+k=a.size
   ·rw[h9 (by simpa using c3)];exact aaO ⟨A9,.inl ⟨_,rfl,UT m2 c3⟩⟩
   ·rw[hZ (by simpa using c3)];refine DH C R A9 kd ⟨by lia,h.hb,m2⟩ (by lia) λhl x hx=>?_;rw[←afS] at hx;exact abn (p2 x hx)
 ·have:k=0:=by lia
  subst this;exact DH C R A9 kd h hn λhl x hx=>abn (p2 x hx)
theorem Rc (C:l6 M A E s O key knd D)(R:LR key D a b){c:OZ}{st cK:aaS}(gj:∃g,st=eh cK g)(kd:abY cK=knd)(h:LI key T a b c.2.1 c.2.2.1 c.2.2.2.1)(hn:n<=c.2.2.1+c.2.2.2.1) :
  wpS M A E s (Xq a b i c) (GS key T a b n cK) st:=by
 unfold Xq;split
 ·exact DJ C R gj kd h hn
 ·exact DJ C R gj kd h hn
theorem Rf (C:l6 M A E s O key knd D)(R:LR key D a b){c:S2}{st:aaS}{Q:ForInStep S2->aaS->Prop}(kd:abY st=knd)(h:LI key T a b c.2.1 c.2.2.1 c.2.2.2.1)(h1:∀d:S2,(∃r,d.1=some r/\rS key T r)\/(d.1=none/\LI key T a b d.2.1 d.2.2.1 d.2.2.2.1/\c.2.2.1+c.2.2.2.1+1=d.2.2.1+d.2.2.2.1)->Q (.done d) st)(h2:∀d:S2,d.1=none->LI key T a b d.2.1 d.2.2.1 d.2.2.2.1->c.2.2.1+c.2.2.2.1+1=d.2.2.1+d.2.2.2.1->Q (.yield d) st) :
  wpS M A E s (YL a b g i c) Q st:=by
 obtain⟨r0,out,ia,ib,ac,bc⟩:=c;dsimp only at h h1 h2 ⊢;have mM:=by have:=h.hb;omega
 have u_:ia<a.toList.length:=by have:=h.ha;rw[aay];lia
 refine aaF (bU (aac mM) ?_);refine aaF (bU (aac u_) ?_);refine aaF (C.lt _ _ st _ (R.db _ (aaH mM)) (R.da _ (aaH u_)) kd ?_);cases e:O.blt _ _ with
 |true=>
  have m:=IW h.mi mM λx hx=>aa8 (abn e) (ku h.mi.sa u_ x hx);refine aaF (bU (aac mM) ?_);by_cases c:ib+1=b.size
  ·rw[h9 (by simpa using c)];exact aaO (h1 _ (.inl ⟨_,rfl,DC m c⟩))
  ·rw[hZ (by simpa using c)];have L:LI key T a b _ ia (ib+1):=⟨h.ha,by lia,m⟩;split
   ·exact aaO (h1 _ (.inr ⟨rfl,L,by simp only;lia⟩))
   ·exact aaO (h2 _ rfl L (by simp only;lia))
 |false=>
  have m:=O0 h.mi u_ λy hy=>aa8 (e) (ku h.mi.sb mM y hy);refine aaF (bU (aac u_) ?_);by_cases c:ia+1+1=a.size
  ·rw[h9 (by simpa using c)];exact aaO (h1 _ (.inl ⟨_,rfl,R.fin m c⟩))
  ·rw[hZ (by simpa using c)];have L:LI key T a b _ (ia+1) ib:=⟨by have:=h.ha;lia,h.hb,m⟩;split
   ·exact aaO (h1 _ (.inr ⟨rfl,L,by simp only;lia⟩))
   ·exact aaO (h2 _ rfl L (by simp only;lia))
theorem Rg (C:l6 M A E s O key knd D)(R:LR key D a b){c:We}{st cK:aaS}(gj:∃g,st=eh cK g)(kd:abY cK=knd)(h:LI key T a b c.2.1 c.2.2.1 c.2.2.2.1) :
  wpS M A E s (YM a b i c) (λr aN=>(∃g,aN=eh cK g)/\match r with
   | .done d=>∃r,d.1=some r/\rS key T r
   | .yield d=>d.1=none/\LI key T a b d.2.1 d.2.2.1 d.2.2.2.1/\c.2.2.1+c.2.2.2.1+1<=d.2.2.1+d.2.2.2.1) st:=by
 obtain⟨r0,out,ia,ib,g0⟩:=c;have K0:abY st=knd:=by obtain⟨g,rfl⟩:=gj;exact kd
 have hs:=by have:=h.hb;omega
 refine aaF (ac2 (abS (I:=λx d aN=>aN=st/\d.1=none/\LI key T a b d.2.1 d.2.2.1 d.2.2.2.1/\ia+ib+x=d.2.2.1+d.2.2.2.1)
  (Q:=λd aN=>aN=st/\((∃r,d.1=some r/\rS key T r)\/(d.1=none/\LI key T a b d.2.1 d.2.2.1 d.2.2.2.1/\ia+ib+1<=d.2.2.1+d.2.2.2.1))) ?step ?fin ⟨rfl,rfl,h,by simp only;lia⟩) ?post)
 case fin=>
  rintro d aN ⟨rfl,e1,e2,e3⟩;exact⟨rfl,.inr ⟨e1,e2,by omega⟩⟩
 case step=>
  rintro x d aN _ hx ⟨rfl,e1,e2,e3⟩;refine Rf C R K0 e2 (λd' hd=>?_) λd' p1 p2 p3=>?_
  ·rcases hd with hd|⟨p1,p2,p3⟩
   ·exact⟨rfl,.inl hd⟩
   ·exact⟨rfl,.inr ⟨p1,p2,by lia⟩⟩
  ·exact⟨rfl,p1,p2,by lia⟩
 case post=>
  rintro d aN ⟨rfl,hd⟩;obtain⟨dr,dout,dia,dib,dac,dbc⟩:=d;rcases hd with⟨r,rfl,hr⟩|⟨rfl,hL,hn⟩
  ·exact aaO ⟨gj,r,rfl,hr⟩
  ·refine aaF (wpS_lift (acU ⟨rfl,?_⟩));refine aaF (ac2 (abS (I:=λx d aN=>GE key T a b _ cK d aN/\d.1=none)
    ?_ (λd aN h=>h.1) ⟨⟨gj,.inr ⟨rfl,hL,hn⟩⟩,rfl⟩) ?_)
   ·rintro x d aN _ hx ⟨⟨oN,hd⟩,e1⟩;rcases hd with⟨r,e2,_⟩|⟨_,e3,e4⟩
    ·rw[e1] at e2;cases e2
    ·refine ac2 (Rc C R oN kd e3 e4) λr SO hr=>?_;cases r with
     |done d'=>exact hr
     |yield d'=>exact hr
   ·rintro d aN ⟨oN,hd⟩;obtain⟨er,eout,eia,eib,eg,eac,ebc⟩:=d;rcases hd with⟨r,rfl,hr⟩|⟨rfl,hL2,S9⟩
    ·exact aaO ⟨oN,r,rfl,hr⟩
    ·refine aaF (aer (aaO ⟨?_,rfl,hL2,S9⟩));obtain⟨g,rfl⟩:=oN;exact⟨_,rfl⟩
theorem BP (C:l6 M A E s O key knd D)(R:LR key D a b){st:aaS}{Q:Array aaT->aaS->Prop}(kd:abY st=knd)(sa:iE key a.toList)(sb:iE key b.toList)(ha:0<a.size)(hb:0<b.size)
  (first:∀y,b.toList[0]? = some y->∀x∈a.toList,O.kle (key y) (key x))
  (h:∀r g,r.toList.Perm (a.toList++b.toList)->iE key r.toList->Q r (eh st g)):wpS M A E s (tZ a b) Q st:=by
 have mM:=by exact hb
 have m:=by
  have m0:MI key (a.toList++b.toList) _ (a.toList.drop 0) (b.toList.drop 0):=
   ⟨by simp,List.Pairwise.nil,sa,sb,λx hx=>absurd hx (by simp),λx hx=>absurd hx (by simp)⟩
  exact IW m0 mM (λx hx=>first _ (aac mM) x hx)
 have fin:∀r g,rS key _ r->Q r _:=λr g hr=>h r g hr.1 hr.2;rw[xP];refine aaF (wpS_lift (acU ⟨rfl,?_⟩));refine aaF (bU (aac mM) ?_);by_cases c:1=b.size
 ·rw[h9 (by simpa using c)];exact aaO (fin _ _ (DC m c))
 ·rw[hZ (by simpa using c)];by_cases c2:0+1=a.size
  ·rw[h9 (by simpa using c2)];exact aaO (fin _ _ (R.fin m c2))
  ·rw[hZ (by simpa using c2)];refine aaF (wpS_get ?_);refine aaF (ac2 (abS (I:=λx d aN=>(∃g,aN=eh st g)/\d.1=none/\LI key _ a b d.2.1 d.2.2.1 d.2.2.2.1/\x<=d.2.2.1+d.2.2.2.1)
    (Q:=λd aN=>(∃g,aN=eh st g)/\∃r,d.1=some r/\rS key (a.toList++b.toList) r) ?step ?fin ⟨⟨gallopOf st,rfl⟩,rfl,⟨by simp only;lia,by simp only;lia,m⟩,by lia⟩) ?post)
   case fin=>
    rintro d aN ⟨oN,e1,e2,e3⟩;have:=e2.ha;have:=e2.hb;lia
   case step=>
    rintro x d aN _ hx ⟨oN,e1,e2,e3⟩;refine ac2 (Rg C R oN kd e2) λr SO hr=>?_;obtain⟨qN,hr⟩:=hr;cases r with
    |done d'=>exact⟨qN,hr⟩
    |yield d'=>exact⟨qN,hr.1,hr.2.1,by lia⟩
   case post=>
    rintro d aN ⟨⟨g,rfl⟩,r,e,hr⟩;obtain⟨dr,d'⟩:=d;subst e;exact aaO (fin r g hr)
end
end Hc.Ts
namespace Hc.Ts
noncomputable def t9:Array aaT->Array aaT->StateT aaS Sem (Array aaT):=sortPriv% PySem.Builtin.mergeHi
noncomputable abbrev O1:=Option (Array aaT)×Nat×Nat×Array aaT×Nat×Nat×Nat
noncomputable abbrev S3:=Option (Array aaT)×Nat×Nat×Array aaT×Nat×Nat
noncomputable abbrev Wf:=Option (Array aaT)×Nat×Nat×Array aaT×Nat
noncomputable def gy (a b out:Array aaT)(na nb:Nat):Array aaT:=a.extract 0 na++b.extract 0 nb++out.reverse
noncomputable def jH (a b out:Array aaT)(na nb:Nat):Array aaT:=b.extract 0 nb++a.extract 0 na++out.reverse
noncomputable def Rh (a b out:Array aaT)(na nb g k k1:Nat):StateT aaS Sem (ForInStep O1):=do
 let x ←elem' a (na-1)
 if (na-1==0)=true then pure (.done (some (gy a b (out.push x) (na-1) nb),na-1,nb,out.push x,g,k,k1))
 else if (decide (k<7)&&decide (k1<7))=true then pure (.done (none,na-1,nb,out.push x,g,k,k1))
 else pure (.yield (none,na-1,nb,out.push x,g,k,k1))
noncomputable def Ri (a b out:Array aaT)(na nb g k bc:Nat):StateT aaS Sem (ForInStep O1):=do
 let y ←elem' b (nb-1)
 if (nb-1==1)=true then pure (.done (some (jH a b (out.push y) na (nb-1)),na,nb-1,out.push y,g,k,bc))
 else do
  let x ←elem' a (na-1)
  let some qO ←iK true x b 0 (nb-1) (nb-1-1)|pure (.done (some (gy a b (out.push y) na (nb-1)),na,nb-1,out.push y,g,k,bc))
  if nb-1-qO>0 then
   if (qO==1)=true then pure (.done (some (jH a b (out.push y++(b.extract qO (nb-1)).reverse) na qO),na,qO,out.push y++(b.extract qO (nb-1)).reverse,g,k,nb-1-qO))
   else if (qO==0)=true then pure (.done (some (gy a b (out.push y++(b.extract qO (nb-1)).reverse) na qO),na,qO,out.push y++(b.extract qO (nb-1)).reverse,g,k,nb-1-qO))
   else Rh a b (out.push y++(b.extract qO (nb-1)).reverse) na qO g k (nb-1-qO)
  else Rh a b (out.push y) na (nb-1) g k (nb-1-qO)
noncomputable def Rj (a b out:Array aaT)(na nb g ac bc:Nat):StateT aaS Sem (ForInStep O1):=do
 fS g
 let y ←elem' b (nb-1)
 let some yN ←iK false y a 0 na (na-1)|pure (.done (some (gy a b out na nb),na,nb,out,g,ac,bc))
 if na-yN>0 then
  if (yN==0)=true then pure (.done (some (gy a b (out++(a.extract yN na).reverse) yN nb),yN,nb,out++(a.extract yN na).reverse,g,na-yN,bc))
  else Ri a b (out++(a.extract yN na).reverse) yN nb g (na-yN) bc
 else Ri a b out na nb g (na-yN) bc
noncomputable def Xr (a b:Array aaT)(_:Nat)(c:O1):StateT aaS Sem (ForInStep O1):=
 if c.2.2.2.2.1>1 then Rj a b c.2.2.2.1 c.2.1 c.2.2.1 (c.2.2.2.2.1-1) c.2.2.2.2.2.1 c.2.2.2.2.2.2
 else Rj a b c.2.2.2.1 c.2.1 c.2.2.1 c.2.2.2.2.1 c.2.2.2.2.2.1 c.2.2.2.2.2.2
noncomputable def Xs (a b:Array aaT)(g:Nat)(_:Nat)(c:S3):StateT aaS Sem (ForInStep S3):=do
 let y ←elem' b (c.2.2.1-1)
 let x ←elem' a (c.2.1-1)
 let some aWins ←lt' y x|pure (.done (some (gy a b c.2.2.2.1 c.2.1 c.2.2.1),c.2.1,c.2.2.1,c.2.2.2.1,c.2.2.2.2.1,c.2.2.2.2.2))
 if aWins=true then do
  let x ←elem' a (c.2.1-1)
  if (c.2.1-1==0)=true then pure (.done (some (gy a b (c.2.2.2.1.push x) (c.2.1-1) c.2.2.1),c.2.1-1,c.2.2.1,c.2.2.2.1.push x,c.2.2.2.2.1+1,0))
  else if c.2.2.2.2.1+1≥g then pure (.done (none,c.2.1-1,c.2.2.1,c.2.2.2.1.push x,c.2.2.2.2.1+1,0))
  else pure (.yield (none,c.2.1-1,c.2.2.1,c.2.2.2.1.push x,c.2.2.2.2.1+1,0))
 else do
  let y ←elem' b (c.2.2.1-1)
  if (c.2.2.1-1==1)=true then pure (.done (some (jH a b (c.2.2.2.1.push y) c.2.1 (c.2.2.1-1)),c.2.1,c.2.2.1-1,c.2.2.2.1.push y,0,c.2.2.2.2.2+1))
  else if c.2.2.2.2.2+1≥g then pure (.done (none,c.2.1,c.2.2.1-1,c.2.2.2.1.push y,0,c.2.2.2.2.2+1))
  else pure (.yield (none,c.2.1,c.2.2.1-1,c.2.2.2.1.push y,0,c.2.2.2.2.2+1))
noncomputable def Xt (a b:Array aaT)(_:Nat)(c:Wf):StateT aaS Sem (ForInStep Wf):=do
 let d ←forIn [0:a.size+b.size] (none,c.2.1,c.2.2.1,c.2.2.2.1,0,0) (Xs a b c.2.2.2.2)
 match d.1 with
 |some r=>pure (.done (some r,d.2.1,d.2.2.1,d.2.2.2.1,c.2.2.2.2))
 |none=>do
  liftM (rule "list.sort.gallop")
  let e ←forIn [0:a.size+b.size] (none,d.2.1,d.2.2.1,d.2.2.2.1,c.2.2.2.2+1,d.2.2.2.2.1,d.2.2.2.2.2) (Xr a b)
  match e.1 with
  |some r=>pure (.done (some r,e.2.1,e.2.2.1,e.2.2.2.1,e.2.2.2.2.1))
  |none=>do
   fS (e.2.2.2.2.1+1)
   pure (.yield (none,e.2.1,e.2.2.1,e.2.2.2.1,e.2.2.2.2.1+1))
theorem xR (a b:Array aaT):t9 a b=(do
  liftM (rule "list.sort.merge-hi")
  let x ←elem' a (a.size-1)
  if (a.size-1==0)=true then pure (gy a b #[x] (a.size-1) b.size)
  else if (b.size==1)=true then pure (jH a b #[x] (a.size-1) b.size)
  else do
   let st ←get
   let c ←forIn [0:a.size+b.size] ((none,a.size-1,b.size,#[x],gallopOf st):Wf) (Xt a b)
   match c.1 with
   |some r=>pure r
   |none=>liftM (unsupported "internal:list.sort.merge-bound")):=by kernel_rfl
section
variable {A:aba}{O:agb}{key:aaT->O.α}{knd:aeG}{D:aaT->Prop}
def xS (a:Array aaT)(n:Nat):(a.extract 0 n).toList=a.toList.take n:=by
 rw[ad2];rfl
def xT (a:Array aaT)(i n:Nat):(a.extract i n).toList=(a.toList.take n).drop i:=by
 rw[ad2,List.drop_take]
def zK (a b out:Array aaT)(na nb:Nat):(gy a b out na nb).toList=(a.toList.take na++b.toList.take nb)++out.toList.reverse:=by
 unfold gy;rw[abp,abp,xS,xS,ad3]
def Fy (a b out:Array aaT)(na nb:Nat):(jH a b out na nb).toList=(b.toList.take nb++a.toList.take na)++out.toList.reverse:=by
 unfold jH;rw[abp,abp,xS,xS,ad3]
theorem pA {l:List aaT}(h0:0<n)(h:n-1<l.length):l.take n=l.take (n-1)++[l[n-1]]:=by
 obtain⟨m,rfl⟩:∃m,n=m+1:=⟨n-1,by lia⟩;exact aaL h
def t_ {l:List aaT}(h:k<=n):l.take n=l.take k++(l.take n).drop k:=by
 conv=>lhs;rw[←abg k (l.take n)]
 rw[List.take_take,acf h]
structure HI (key:aaT->O.α)(T:List aaT)(a b out:Array aaT)(na nb:Nat):Prop where
 a0:0<na
 a1:na<=a.size
 b0:1<nb
 b1:nb<=b.size
 mh:MH key T (a.toList.take na) (b.toList.take nb) out.toList.reverse
structure HR (key:aaT->O.α)(D:aaT->Prop)(a b:Array aaT):Prop where
 da:∀x∈a.toList,D x
 db:∀x∈b.toList,D x
 first:∀y,b.toList[0]? = some y->∀x∈a.toList,O.kle (key y) (key x)
variable {a b out:Array aaT}{na nb:Nat}
theorem HR.fin (R:HR key D a b)(h:MH key T (a.toList.take na) (b.toList.take nb) out.toList.reverse)(e:nb=1):rS key T (jH a b out na nb):=by
 unfold rS;rw[Fy];refine h.first λy hy x hx=>?_
 subst e;cases hb:b.toList with
 |nil=>rw[hb] at hy;cases hy
 |cons z r=>
  rw[hb] at hy;have:=by simpa using hy
  subst this;exact R.first y (by rw[hb];rfl) x (abf hx)
theorem xU (h:MH key T (a.toList.take na) (b.toList.take nb) out.toList.reverse)(e:na=0):rS key T (gy a b out na nb):=by
 subst e;unfold rS;rw[zK];exact h.endB
theorem Rk (h:MH key T (a.toList.take na) (b.toList.take nb) out.toList.reverse)(e:nb=0):rS key T (gy a b out na nb):=by
 subst e;unfold rS;rw[zK];rw[List.take_zero] at h ⊢;rw[aa2];exact h.endA
theorem ig {l:List aaT}(h:iE key (l.take n))(h0:0<n)(hl:n-1<l.length):∀x∈l.take n,O.kle (key x) (key l[n-1]):=by
 intro x hx;rw[pA h0 hl] at h hx;rcases aaQ.mp hx with hx|hx
 ·exact (bL.mp h).2.2 x hx _ (by simp)
 ·rw[aaK] at hx;subst hx;exact ab3 _
theorem BQ (h:MH key T (a.toList.take na) (b.toList.take nb) out.toList.reverse)(h0:0<na)(hl:na-1<a.toList.length)(hx:∀y∈b.toList.take nb,O.kle (key y) (key a.toList[na-1])):MH key T (a.toList.take (na-1)) (b.toList.take nb) (out.push a.toList[na-1]).toList.reverse:=by
 rw[adU,aeg];rw[pA h0 hl] at h;exact h.stepA λy hy x wV=>by rw[aaK] at wV;subst wV;exact hx y hy
theorem IX (h:MH key T (a.toList.take na) (b.toList.take nb) out.toList.reverse)(h0:0<nb)(hl:nb-1<b.toList.length)(hx:∀x∈a.toList.take na,O.kle (key x) (key b.toList[nb-1])):MH key T (a.toList.take na) (b.toList.take (nb-1)) (out.push b.toList[nb-1]).toList.reverse:=by
 rw[adU,aeg];rw[pA h0 hl] at h;exact h.stepB λx wV y hy=>by rw[aaK] at hy;subst hy;exact hx x wV
def HE (key:aaT->O.α)(T:List aaT)(a b:Array aaT)(n:Nat)(cK:aaS)(c:O1)(st:aaS):Prop:=
 (∃g,st=eh cK g)/\((∃r,c.1=some r/\rS key T r)\/(c.1=none/\HI key T a b c.2.2.2.1 c.2.1 c.2.2.1/\c.2.1+c.2.2.1<=n))
def HS (key:aaT->O.α)(T:List aaT)(a b:Array aaT)(n:Nat)(cK:aaS)(r:ForInStep O1)(st:aaS):Prop:=
 match r with
 | .done c=>HE key T a b n cK c st
 | .yield c=>HE key T a b n cK c st/\c.1=none
theorem DK (R:HR key D a b){k1:Nat}{st cK:aaS}(gj:∃g,st=eh cK g)(h:HI key T a b out na nb)(hn:na+nb<=n)(hx:∀(hl:na-1<a.toList.length),∀y∈b.toList.take nb,O.kle (key y) (key a.toList[na-1])) :
  wpS M A E s (Rh a b out na nb g k k1) (HS key T a b n cK) st:=by
 have hl:na-1<a.toList.length:=by have:=h.a0;have:=h.a1;rw[aay];lia
 have m:=BQ h.mh h.a0 hl (hx hl);refine aaF (bU (aac hl) ?_);by_cases c:na-1=0
 ·rw[h9 (by simpa using c)];exact aaO ⟨gj,.inl ⟨_,rfl,xU m c⟩⟩
 ·rw[hZ (by simpa using c)];have L:HI key T a b _ _ nb:=⟨by lia,by have:=h.a1;lia,h.b0,h.b1,m⟩;by_cases c2:(decide (k<7)&&decide (k1<7))=true
  ·rw[h9 c2];exact aaO ⟨gj,.inr ⟨rfl,L,by simp only;lia⟩⟩
  ·rw[hZ c2];exact aaO ⟨⟨gj,.inr ⟨rfl,L,by simp only;lia⟩⟩,rfl⟩
theorem DL (C:l6 M A E s O key knd D)(R:HR key D a b){st cK:aaS}(gj:∃g,st=eh cK g)(kd:abY cK=knd)(h:HI key T a b out na nb)(hn:na+nb<=n)(hx:∀(hl:nb-1<b.toList.length),∀x∈a.toList.take na,O.kle (key x) (key b.toList[nb-1])) :
  wpS M A E s (Ri a b out na nb g k bc) (HS key T a b n cK) st:=by
 have mM:nb-1<b.toList.length:=by have:=h.b0;have:=h.b1;rw[aay];lia
 have u_:na-1<a.toList.length:=by have:=h.a0;have:=h.a1;rw[aay];lia
 have b0:=h.b0;have b1:=h.b1;have a0:=h.a0;have a1:=h.a1;have m:=IX h.mh (by lia) mM (hx mM);have K0:abY st=knd:=by obtain⟨g,rfl⟩:=gj;exact kd
 refine aaF (bU (aac mM) ?_);by_cases c:nb-1=1
 ·rw[h9 (by simpa using c)];exact aaO ⟨gj,.inl ⟨_,rfl,R.fin m c⟩⟩
 ·rw[hZ (by simpa using c)];refine aaF (bU (aac u_) ?_);have fg:(b.toList.take (nb-1)).length=nb-1:=by rw[aaE];lia
  have K2:=λQ=>l9 C (Q:=Q) (hint:=nb-1-1) (λi x e=>by
   rw[adg];rw[aeI] at e;split at e
   ·exact e
   ·cases e) m.sb (λx hx=>R.db x (abf hx)) (R.da _ (aaH u_)) K0 (by lia)
  rw[fg] at K2;refine aaF (K2 _ λqO Gq p1 p2=>?_);dsimp only;rw[List.take_take,acf Gq] at p1;by_cases c1:nb-1-qO>0
  ·rw[h9 c1];have m2:MH key T (a.toList.take na) (b.toList.take qO) (out.push b.toList[nb-1]++(b.extract qO (nb-1)).reverse).toList.reverse:=by
    rw[abp,ad3,aeg,List.reverse_reverse,xT];have m':=m;rw[t_ (n:=nb-1) (by omega)] at m';exact m'.stepB λx wV y hy=>aa8 (ig h.mh.sa a0 u_ x wV) (p2 y hy)
   by_cases c2:qO=1
   ·rw[h9 (by simpa using c2)];exact aaO ⟨gj,.inl ⟨_,rfl,R.fin m2 c2⟩⟩
   ·rw[hZ (by simpa using c2)];by_cases c3:qO=0
    ·rw[h9 (by simpa using c3)];exact aaO ⟨gj,.inl ⟨_,rfl,Rk m2 c3⟩⟩
    ·rw[hZ (by simpa using c3)];refine DK R gj ⟨a0,a1,by lia,by lia,m2⟩ (by lia) λhl y hy=>abn (p1 y hy)
  ·rw[hZ c1];have:qO=nb-1:=by lia
   subst this;refine DK R gj ⟨a0,a1,by lia,by lia,m⟩ (by lia) λhl y hy=>abn (p1 y hy)
theorem DM (C:l6 M A E s O key knd D)(R:HR key D a b){ac:Nat}{st cK:aaS}(gj:∃g,st=eh cK g)(kd:abY cK=knd)(h:HI key T a b out na nb)(hn:na+nb<=n) :
  wpS M A E s (Rj a b out na nb g ac bc) (HS key T a b n cK) st:=by
 have mM:nb-1<b.toList.length:=by have:=h.b0;have:=h.b1;rw[aay];lia
 have b0:=h.b0;have b1:=h.b1;have a0:=h.a0;have a1:=h.a1;have A9:∃g',eh st g=eh cK g':=by obtain⟨g0,rfl⟩:=gj;exact⟨g,rfl⟩
 have K0:abY (eh st g)=knd:=by obtain⟨g0,rfl⟩:=gj;exact kd
 refine aaF (aer ?_);refine aaF (bU (aac mM) ?_);have fg:(a.toList.take na).length=na:=by rw[aaE,aay];lia
 have K2:=λQ=>l7 C (Q:=Q) (hint:=na-1) (λi x e=>by
   rw[adg];rw[aeI] at e;split at e
   ·exact e
   ·cases e) h.mh.sa (λx hx=>R.da x (abf hx)) (R.db _ (aaH mM)) K0 (by lia)
 rw[fg] at K2;refine aaF (K2 _ λyN hk p1 p2=>?_);dsimp only;rw[List.take_take,acf hk] at p1;by_cases c1:na-yN>0
 ·rw[h9 c1];have m2:MH key T (a.toList.take yN) (b.toList.take nb) (out++(a.extract yN na).reverse).toList.reverse:=by
   rw[abp,ad3,aeg,List.reverse_reverse,xT];have m':=h.mh;rw[t_ (by omega)] at m';exact m'.stepA λy hy x hx=>aa8 (ig h.mh.sb (by lia) mM y hy) (abn (p2 x hx))
  by_cases c2:yN=0
  ·rw[h9 (by simpa using c2)];exact aaO ⟨A9,.inl ⟨_,rfl,xU m2 c2⟩⟩
  ·rw[hZ (by simpa using c2)];exact DL C R A9 kd ⟨by lia,by lia,b0,b1,m2⟩ (by lia) λhl x hx=>p1 x hx
 ·rw[hZ c1];have:yN=na:=by lia
  subst this;exact DL C R A9 kd h hn λhl x hx=>p1 x hx
theorem Rl (C:l6 M A E s O key knd D)(R:HR key D a b){c:O1}{st cK:aaS}(gj:∃g,st=eh cK g)(kd:abY cK=knd)(h:HI key T a b c.2.2.2.1 c.2.1 c.2.2.1)(hn:c.2.1+c.2.2.1<=n) :
  wpS M A E s (Xr a b i c) (HS key T a b n cK) st:=by
 unfold Xr;split
 ·exact DM C R gj kd h hn
 ·exact DM C R gj kd h hn
theorem Rm (C:l6 M A E s O key knd D)(R:HR key D a b){c:S3}{st:aaS}{Q:ForInStep S3->aaS->Prop}(kd:abY st=knd)(h:HI key T a b c.2.2.2.1 c.2.1 c.2.2.1)(h1:∀d:S3,(∃r,d.1=some r/\rS key T r)\/(d.1=none/\HI key T a b d.2.2.2.1 d.2.1 d.2.2.1/\c.2.1+c.2.2.1=d.2.1+d.2.2.1+1)->Q (.done d) st)(h2:∀d:S3,d.1=none->HI key T a b d.2.2.2.1 d.2.1 d.2.2.1->c.2.1+c.2.2.1=d.2.1+d.2.2.1+1->Q (.yield d) st) :
  wpS M A E s (Xs a b g i c) Q st:=by
 obtain⟨r0,na,nb,out,ac,bc⟩:=c;dsimp only at h h1 h2 ⊢;have mM:nb-1<b.toList.length:=by have:=h.b0;have:=h.b1;rw[aay];lia
 have u_:na-1<a.toList.length:=by have:=h.a0;have:=h.a1;rw[aay];lia
 have b0:=h.b0;have b1:=h.b1;have a0:=h.a0;have a1:=h.a1;unfold Xs;refine aaF (bU (aac mM) ?_);refine aaF (bU (aac u_) ?_);refine aaF (C.lt _ _ st _ (R.db _ (aaH mM)) (R.da _ (aaH u_)) kd ?_);cases e:O.blt _ _ with
 |true=>
  have m:=BQ h.mh a0 u_ λy hy=>aa8 (ig h.mh.sb (by lia) mM y hy) (abn e);refine aaF (bU (aac u_) ?_);by_cases c:na-1=0
  ·rw[h9 (by simpa using c)];exact aaO (h1 _ (.inl ⟨_,rfl,xU m c⟩))
  ·rw[hZ (by simpa using c)];have L:HI key T a b _ (na-1) nb:=⟨by lia,by lia,b0,b1,m⟩;split
   ·exact aaO (h1 _ (.inr ⟨rfl,L,by simp only;lia⟩))
   ·exact aaO (h2 _ rfl L (by simp only;lia))
 |false=>
  have m:=IX h.mh (by lia) mM λx hx=>aa8 (ig h.mh.sa a0 u_ x hx) (e);refine aaF (bU (aac mM) ?_);by_cases c:nb-1=1
  ·rw[h9 (by simpa using c)];exact aaO (h1 _ (.inl ⟨_,rfl,R.fin m c⟩))
  ·rw[hZ (by simpa using c)];have L:HI key T a b _ na (nb-1):=⟨a0,a1,by lia,by lia,m⟩;split
   ·exact aaO (h1 _ (.inr ⟨rfl,L,by simp only;lia⟩))
   ·exact aaO (h2 _ rfl L (by simp only;lia))
theorem Rn (C:l6 M A E s O key knd D)(R:HR key D a b){c:Wf}{st cK:aaS}(gj:∃g,st=eh cK g)(kd:abY cK=knd)(h:HI key T a b c.2.2.2.1 c.2.1 c.2.2.1) :
  wpS M A E s (Xt a b i c) (λr aN=>(∃g,aN=eh cK g)/\match r with
   | .done d=>∃r,d.1=some r/\rS key T r
   | .yield d=>d.1=none/\HI key T a b d.2.2.2.1 d.2.1 d.2.2.1/\d.2.1+d.2.2.1+1<=c.2.1+c.2.2.1) st:=by
 obtain⟨r0,na,nb,out,g0⟩:=c;dsimp only at h ⊢;have K0:abY st=knd:=by obtain⟨g,rfl⟩:=gj;exact kd
 have b0:=h.b0;have b1:=h.b1;unfold Xt;refine aaF (ac2 (abS (I:=λx d aN=>aN=st/\d.1=none/\HI key T a b d.2.2.2.1 d.2.1 d.2.2.1/\na+nb=d.2.1+d.2.2.1+x)
  (Q:=λd aN=>aN=st/\((∃r,d.1=some r/\rS key T r)\/(d.1=none/\HI key T a b d.2.2.2.1 d.2.1 d.2.2.1/\d.2.1+d.2.2.1+1<=na+nb))) ?step ?fin ⟨rfl,rfl,h,by simp only;lia⟩) ?post)
 case fin=>
  rintro d aN ⟨rfl,e1,e2,e3⟩;exact⟨rfl,.inr ⟨e1,e2,by lia⟩⟩
 case step=>
  rintro x d aN _ hx ⟨rfl,e1,e2,e3⟩;refine Rm C R K0 e2 (λd' hd=>?_) λd' p1 p2 p3=>?_
  ·rcases hd with hd|⟨p1,p2,p3⟩
   ·exact⟨rfl,.inl hd⟩
   ·exact⟨rfl,.inr ⟨p1,p2,by lia⟩⟩
  ·exact⟨rfl,p1,p2,by lia⟩
 case post=>
  rintro d aN ⟨rfl,hd⟩;obtain⟨dr,dna,dnb,dout,dac,dbc⟩:=d;dsimp only at hd ⊢;rcases hd with⟨r,rfl,hr⟩|⟨rfl,hL,hn⟩
  ·exact aaO ⟨gj,r,rfl,hr⟩
  ·refine aaF (wpS_lift (acU ⟨rfl,?_⟩));refine aaF (ac2 (abS (I:=λx d aN=>HE key T a b (na+nb-1) cK d aN/\d.1=none)
    ?_ (λd aN h=>h.1) ⟨⟨gj,.inr ⟨rfl,hL,by simp only;lia⟩⟩,rfl⟩) ?_)
   ·rintro x d aN _ hx ⟨⟨oN,hd⟩,e1⟩;rcases hd with⟨r,e2,_⟩|⟨_,e3,e4⟩
    ·rw[e1] at e2;cases e2
    ·refine ac2 (Rl C R oN kd e3 e4) λr SO hr=>?_;cases r with
     |done d'=>exact hr
     |yield d'=>exact hr
   ·rintro d aN ⟨oN,hd⟩;obtain⟨er,ena,enb,eout,eg,eac,ebc⟩:=d;dsimp only at hd ⊢;rcases hd with⟨r,rfl,hr⟩|⟨rfl,hL2,S9⟩
    ·exact aaO ⟨oN,r,rfl,hr⟩
    ·refine aaF (aer (aaO ⟨?_,rfl,hL2,by simp only;lia⟩));obtain⟨g,rfl⟩:=oN;exact⟨_,rfl⟩
theorem BR (C:l6 M A E s O key knd D)(R:HR key D a b){st:aaS}{Q:Array aaT->aaS->Prop}(kd:abY st=knd)(sa:iE key a.toList)(sb:iE key b.toList)(ha:0<a.size)(hb:0<b.size)
  (last:∀i,i+1=a.size->∀y∈b.toList,∀x,a.toList[i]? = some x->O.kle (key y) (key x))
  (h:∀r g,r.toList.Perm (a.toList++b.toList)->iE key r.toList->Q r (eh st g)):wpS M A E s (t9 a b) Q st:=by
 have u_:a.size-1<a.toList.length:=by rw[aay];lia
 have ta:a.toList.take a.size=a.toList:=abN (by simp);have tb:b.toList.take b.size=b.toList:=abN (by simp);have m:=by
  have m0:MH key (a.toList++b.toList) (a.toList.take a.size) (b.toList.take b.size) (#[]:Array aaT).toList.reverse:=by
   rw[ta,tb];exact⟨by simp,List.Pairwise.nil,sa,sb,λx _ y hy=>absurd hy (by simp),λx _ y hy=>absurd hy (by simp)⟩
  exact BQ m0 ha u_ (λy hy=>last _ (by lia) y (abf hy) _ (aac u_))
 have fin:∀r g,rS key _ r->Q r _:=λr g hr=>h r g hr.1 hr.2;rw[xR];refine aaF (wpS_lift (acU ⟨rfl,?_⟩));refine aaF (bU (aac u_) ?_);by_cases c:a.size-1=0
 ·rw[h9 (by simpa using c)];exact aaO (fin _ _ (xU m c))
 ·rw[hZ (by simpa using c)];by_cases c2:b.size=1
  ·rw[h9 (by simpa using c2)];exact aaO (fin _ _ (R.fin m c2))
  ·rw[hZ (by simpa using c2)];refine aaF (wpS_get ?_);refine aaF (ac2 (abS (I:=λx d aN=>(∃g,aN=eh st g)/\d.1=none/\HI key _ a b d.2.2.2.1 d.2.1 d.2.2.1/\d.2.1+d.2.2.1+x<=a.size+b.size)
    (Q:=λd aN=>(∃g,aN=eh st g)/\∃r,d.1=some r/\rS key (a.toList++b.toList) r) ?step ?fin ⟨⟨gallopOf st,rfl⟩,rfl,⟨by simp only;lia,by simp only;lia,by simp only;lia,by simp only;lia,m⟩,by simp only;lia⟩) ?post)
   case fin=>
    rintro d aN ⟨oN,e1,e2,e3⟩;have:=e2.a0;lia
   case step=>
    rintro x d aN _ hx ⟨oN,e1,e2,e3⟩;refine ac2 (Rn C R oN kd e2) λr SO hr=>?_;obtain⟨qN,hr⟩:=hr;cases r with
    |done d'=>exact⟨qN,hr⟩
    |yield d'=>exact⟨qN,hr.1,hr.2.1,by lia⟩
   case post=>
    rintro d aN ⟨⟨g,rfl⟩,r,e,hr⟩;obtain⟨dr,d'⟩:=d;subst e;exact aaO (fin r g hr)
end
end Hc.Ts
namespace Hc.Ts
noncomputable def nI (l:List aaT)(sa:Nat)(a:Array aaT):Array aaT:=l.zipIdx.foldl (λa (p,j)=>a.setIfInBounds (sa+j) p) a
noncomputable def UU (x y:Array aaT)(sa na nb:Nat):StateT aaS Sem Bool:=do
 let merged ←if na<=nb then tZ x y else t9 x y
 modify λs=>setArr s (nI merged.toList sa (abA s))
 let s ←get
 pure (aeH s).isNone
section
variable {A:aba}{O:agb}{key:aaT->O.α}{knd:aeG}{D:aaT->Prop}
theorem uc:∀(l m P S:List aaT) (n sa:Nat) (a:Array aaT),m.length=l.length->sa+n=P.length->a.toList=P++(m++S)->((l.zipIdx n).foldl (λa (p,j)=>a.setIfInBounds (sa+j) p) a).toList=P++(l++S)
 | [],m,P,S,n,sa,a,h1,h2,h3=>by
  have:=abJ h1;subst this;exact h3
 |p::l,[],P,S,n,sa,a,h1,h2,h3=>by cases h1
 |p::l,q::m,P,S,n,sa,a,h1,h2,h3=>by
  rw[List.zipIdx_cons,abv];have h4:(a.setIfInBounds (sa+n) p).toList=(P++[p])++(m++S):=by
   rw[afF,h3,h2,List.set_append_right _ _ (aao _),Nat.sub_self];simp
  have:=uc l m _ S (n+1) sa _ (by simpa using h1) (by rw[aaj,adG];lia) h4;rw[this];simp
theorem Fz {l m P S:List aaT}{sa:Nat}{a:Array aaT}(h1:m.length=l.length)(h2:sa=P.length)(h3:a.toList=P++(m++S)):(nI l sa a).toList=P++(l++S):=
 uc l m P S 0 sa a h1 (by lia) h3
theorem Mt (C:l6 M A E s O key knd D){P x y S:List aaT}{sa:Nat}{st:aaS}{Q:Bool->aaS->Prop}{ax ay:Array aaT}{na nb:Nat}(ex:ax.toList=x)(ey:ay.toList=y)(hf:aeH st=none)(kd:abY st=knd)(ha:(abA st).toList=P++((x++y)++S))(hs:sa=P.length)
  (dx:∀p∈x,D p) (dy:∀p∈y,D p) (sx:iE key x) (sy:iE key y) (x0:0<x.length) (y0:0<y.length)
  (first:∀q,y[0]? = some q->∀p∈x,O.kle (key q) (key p)) (last:∀i,i+1=x.length->∀q∈y,∀p,x[i]? = some p->O.kle (key q) (key p))
  (h:∀z g,z.Perm (x++y)->iE key z->Q true (eh (setArr st (P++(z++S)).toArray) g)):wpS M A E s (UU ax ay sa na nb) Q st:=by
 subst ex;subst ey;have fin:∀(r:Array aaT) (g:Nat),r.toList.Perm (ax.toList++ay.toList)->iE key r.toList->wpS M A E s (do
   modify λs=>setArr s (nI r.toList sa (abA s))
   let s ←get
   pure (aeH s).isNone) Q (eh st g):=by
  intro r g hp hr;refine aaF (aer ?_);refine aaF (wpS_get (aaO ?_));have e1:nI r.toList sa (abA st)=(P++(r.toList++S)).toArray:=by
   apply Array.ext';rw[Fz hp.length_eq.symm hs ha]
  have e2:=by
   show (aeH st).isNone=true;rw[hf];rfl
  rw[e2];have e3:setArr (eh st g) (nI r.toList sa (abA (eh st g)))=eh (setArr st (P++(r.toList++S)).toArray) g:=by
   rw[←e1]
  rw[e3];exact h r.toList g hp hr
 unfold UU;split
 ·refine aaF ?_;exact BP C ⟨dx,dy,λi hi=>last i (by exact hi)⟩ kd sx sy (by simpa using x0) (by simpa using y0) first fin
 ·refine aaF ?_;exact BR C ⟨dx,dy,first⟩ kd sx sy (by simpa using x0) (by simpa using y0) (λi hi=>last i (by exact hi)) fin
def Mv {σ:Type}{st aN:σ}{Q:PUnit->σ->Prop}(h:Q ⟨⟩ aN):wpS M A E s (set aN:StateT σ Sem PUnit) Q st:=by
 exact aae ⟨rfl,h⟩
theorem xV {l P x R:List aaT}(h:l=P++(x++R))(i:Nat)(p:aaT)(e:x[i]? = some p):l[P.length+i]? = some p:=by
 have hi:i<x.length:=by
  rcases adJ i x.length with h|h
  ·exact h
  ·rw[ae8 h] at e;cases e
 rw[h,abW (acD _ _),abU,acs hi,e]
noncomputable def DP (p:Array (Nat×Nat×Nat))(i sa n pw:Nat):Array (Nat×Nat×Nat):=(p.setIfInBounds i (sa,n,pw)).eraseIdxIfInBounds (i+1)
theorem BS (C:l6 M A E s O key knd D){P x y S:List aaT}{pw pw2:Nat}{st:aaS}{Q:Bool->aaS->Prop}(hf:aeH st=none)(kd:abY st=knd)(ha:(abA st).toList=P++(x++(y++S)))(h1:(abj st)[i]? = some (P.length,x.length,pw))(h2:(abj st)[i+1]? = some (P.length+x.length,y.length,pw2))(dx:∀p∈x,D p)(dy:∀p∈y,D p)(sx:iE key x)(sy:iE key y)(x0:0<x.length)(y0:0<y.length)(h:∀z g,z.Perm (x++y)->iE key z->Q true (eh (setArr (setPending st (DP (abj st) i P.length (x.length+y.length) pw)) (P++(z++S)).toArray) g)):wpS M A E s (mergeAt' i) Q st:=by
 have all:∀(hz:iE key (x++y)),Q true (setPending st (DP (abj st) i P.length (x.length+y.length) pw)):=by
  intro hz;have:=h (x++y) (gallopOf st) (acd _) hz;have e:(P++(x++y++S)).toArray=abA st:=by
   apply Array.ext';rw[ha,aaP]
  rw[e] at this;exact this
 have Tb:(abA st).toList=(P++x)++(y++S):=by rw[ha,aaP]
 refine aaF (wpS_get ?_);rw[h1,h2];refine aaF (Mv ?_);have ey:=by
  have:=xV Tb 0 y[0] (aac y0);rw[aaj] at this;exact this
 refine aaF (bU ey ?_);refine aaF (l7 C (λi p e=>xV ha i p e) sx dx (dy _ (aaH y0)) kd x0 λk hk p1 p2=>?_);dsimp only;have yh:∀q∈y,O.kle (key y[0]) (key q):=by
  have:=ku (by simpa using sy) y0;simpa using this
 by_cases c:x.length-k=0
 ·rw[h9 (by simpa using c)];refine aaO (all ?_);have:x.take k=x:=abN (by lia);rw[this] at p1;exact bL.mpr ⟨sx,sy,λp hp q hq=>aa8 (p1 p hp) (yh q hq)⟩
 ·rw[hZ (by simpa using c)];have Wv:x.length-1<x.length:=by lia
  have Z7:(abA st).toList[P.length+k+(x.length-k)-1]? = some x[x.length-1]:=by
   have:=xV ha _ _ (aac Wv);rw[show P.length+k+(x.length-k)-1=P.length+(x.length-1) by lia];exact this
  refine aaF (bU Z7 ?_);refine aaF (l9 C (λi p e=>by have:=xV Tb i p e;rw[aaj] at this;exact this) sy dy (dx _ (aaH Wv)) kd (by lia) λnb Z8 q1 q2=>?_);dsimp only;have PH:=by
   have:=ig (by rw[abh];exact sx) x0 Wv;rw[abh] at this;exact this
  by_cases c2:nb=0
  ·rw[h9 (by simpa using c2)];refine aaO (all ?_);subst c2;exact bL.mpr ⟨sx,sy,λp hp q hq=>aa8 (PH p hp) (q2 q hq)⟩
  ·rw[hZ (by simpa using c2)];have xs:=(abg k x).symm;have ys:=(abg nb y).symm;obtain⟨sx1,sx2,sx3⟩:=bL.mp (xs▸sx);obtain⟨sy1,sy2,sy3⟩:=bL.mp (ys▸sy);refine Mt C (P:=P++x.take k) (S:=y.drop nb++S) ?ex ?ey hf kd ?ha ?hs (λp hp=>dx p (acg hp)) (λp hp=>dy p (abf hp)) sx2 sy1 (by rw[abb];lia) (by rw[aaE];lia) ?first ?last λz g hz sz=>?_
   case ex=>
    rw[xT,Tb];rw[show P.length+x.length=(P++x).length by rw[aaj]];rw[List.take_left,List.drop_append,adz (by lia),abU];rfl
   case ey=>
    rw[xQ,Tb];rw[show P.length+x.length=(P++x).length by rw[aaj],List.drop_left,List.take_append_of_le_length Z8]
   case ha=>
    rw[ha]
    conv=>lhs;rw[xs,ys]
    simp only[aaP]
   case hs=>rw[aaj,aaE];lia
   case first=>
    intro q hq p hp;have:(y.take nb)[0]? = y[0]? := by rw[aeI,h9 (by lia)]
    rw[this,aac y0] at hq;injection hq with hq
    subst hq;exact abn (p2 p hp)
   case last=>
    intro i hi q hq p hp;rw[abb] at hi;rw[afM,show k+i=x.length-1 by lia,aac Wv] at hp;injection hp with hp
    subst hp;exact abn (q1 q hq)
   have mz:∀r∈z,r∈x.drop k\/r∈y.take nb:=λr hr=>aaQ.mp (hz.mem_iff.mp hr);have Z9:(x.take k++(z++y.drop nb)).Perm (x++y):=by
    have e:x++y=x.take k++((x.drop k++y.take nb)++y.drop nb):=by
     conv=>lhs;rw[xs,ys]
     simp only[aaP]
    rw[e];exact ab8 _ (abZ _ hz)
   have Zf:=by
    refine bL.mpr ⟨sx1,bL.mpr ⟨sz,sy2,λp hp q hq=>?_⟩,λp hp q hq=>?_⟩
    ·rcases mz p hp with hp|hp
     ·exact aa8 (PH p (acg hp)) (q2 q hq)
     ·exact sy3 p hp q hq
    ·rcases aaQ.mp hq with hq|hq
     ·rcases mz q hq with hq|hq
      ·exact sx3 p hp q hq
      ·exact aa8 (p1 p hp) (yh q (abf hq))
     ·exact aa8 (p1 p hp) (yh q (acg hq))
   have:=h _ g Z9 Zf;have e:P++(x.take k++(z++y.drop nb)++S)=P++x.take k++(z++(y.drop nb++S)):=by simp only[aaP]
   rw[e] at this;exact this
end
end Hc.Ts
namespace Hc.Ts
noncomputable def IY (lo n m:Nat):StateT aaS Sem AscSt:=forIn [n:m] ((none,n):AscSt) λ_ c=>do
 let some sm ←ltAt' (lo+c.2) (lo+c.2-1)|pure (.done (some none,c.2))
 if sm=true then pure (.done (none,c.2)) else pure (.yield (none,c.2+1))
noncomputable def IZ (lo n m:Nat):StateT aaS Sem (Option Nat):=do
 afo lo (lo+n)
 let c ←IY lo n m
 match c.1 with
 |some r=>pure r
 |none=>pure (some c.2)
noncomputable def O2 (lo:Nat)(c:DescSt):StateT aaS Sem (ForInStep DescSt):=do
 let some sm ←ltAt' (lo+c.2.1) (lo+c.2.1-1)|pure (.done (some none,c.2.1,c.2.2))
 if sm=true then
  if c.2.2>0 then do
   afo (lo+c.2.1-(c.2.2+1)) (lo+c.2.1)
   pure (.yield (none,c.2.1+1,0))
  else pure (.yield (none,c.2.1+1,0))
 else do
  let some lg ←ltAt' (lo+c.2.1-1) (lo+c.2.1)|pure (.done (some none,c.2.1,c.2.2))
  if lg=true then pure (.done (none,c.2.1,c.2.2)) else pure (.yield (none,c.2.1+1,c.2.2+1))
noncomputable def O3 (lo n m:Nat):StateT aaS Sem DescSt:=forIn [n:m] ((none,n,0):DescSt) λ_ c=>O2 lo c
noncomputable def I_ (lo n m:Nat):StateT aaS Sem (Option Nat):=do
 liftM (rule "list.sort.descending-run")
 let c ←O3 lo (n+1) m
 match c.1 with
 |some r=>pure r
 |none=>
  if c.2.2>0 then do
   afo (lo+c.2.1-(c.2.2+1)) (lo+c.2.1)
   IZ lo c.2.1 m
  else IZ lo c.2.1 m
theorem zL (lo m:Nat):countRun' lo m=(do
  let c ←IY lo 1 m
  match c.1 with
  |some r=>pure r
  |none=>
   if (c.2==m)=true then pure (some c.2)
   else if c.2>1 then do
    let some rs ←ltAt' lo (lo+c.2-1)|pure none
    if rs=true then pure (some c.2)
    else do
     afo lo (lo+c.2)
     I_ lo c.2 m
   else I_ lo c.2 m):=by kernel_rfl
section
variable {A:aba}{O:agb}{key:aaT->O.α}{knd:aeG}{D:aaT->Prop}{lo:Nat}{a0:Array aaT}{cK:aaS}
noncomputable def kx (key:aaT->O.α)(l:Array aaT)(i:Nat):O.α:=key ((l[i]?).getD (Value.none,Value.none))
def zM {l m:Array aaT}(h:l[i]? = m[j]?):kx key l i=kx key m j:=by unfold kx;rw[h]
theorem BU {l:Array aaT}(hm:lo+m<=l.size)(k:Nat):kx key (mirror l (lo+n) (lo+m) ((lo+m-(lo+n)) / 2)) (lo+k)=if n<=k/\k<m then kx key l (lo+(n+m-1-k)) else kx key l (lo+k):=by
 have e:=getElem?_mirror_all (i:=lo+n) hm (lo+k);by_cases c:n<=k/\k<m
 ·rw[h9 (by lia)] at e;rw[h9 c];exact zM (e.trans (by congr 1;lia))
 ·rw[hZ (by lia)] at e;rw[hZ c];exact zM e
theorem gb {l:Array aaT}(hm:lo+m<=l.size)(he:∀k,n<=k->k<m->kx key l (lo+k)=kx key l (lo+m-1))(k:Nat):kx key (mirror l (lo+n) (lo+m) ((lo+m-(lo+n)) / 2)) (lo+k)=kx key l (lo+k):=by
 rw[BU hm];split
 ·rename_i c;rw[he _ (by lia) (by lia),he k c.1 c.2]
 ·rfl
theorem Ja {l:Array aaT}{p d:Nat}(hp:lo+p<l.size)(hd:d<=p)(k:Nat):kx key (bubble l (lo+p) d) (lo+k)=if k=p-d then kx key l (lo+p) else if p-d<k/\k<=p then kx key l (lo+(k-1)) else kx key l (lo+k):=by
 have e:=getElem?_bubble hp d (by lia) (lo+k);by_cases c:k=p-d
 ·rw[h9 (by lia)] at e;rw[h9 c];exact zM e
 ·rw[hZ (by lia)] at e;rw[hZ c];by_cases c2:p-d<k/\k<=p
  ·rw[h9 (by lia)] at e;rw[h9 c2];exact zM (e.trans (by congr 1;lia))
  ·rw[hZ (by lia)] at e;rw[hZ c2];exact zM e
def Gn (key:aaT->O.α)(lo:Nat)(l:Array aaT)(n:Nat):Prop:=∀i j,i<=j->j<n->O.kle (kx key l (lo+i)) (kx key l (lo+j))
def S4 (key:aaT->O.α)(lo:Nat)(l:Array aaT)(n:Nat):Prop:=∀i j,i<=j->j<n->O.kle (kx key l (lo+j)) (kx key l (lo+i))
structure SB (lo:Nat)(a0:Array aaT)(cK st:aaS):Prop where
 perm:(abA st).Perm a0
 same:∀k,k<lo->(abA st)[k]? = a0[k]?
 rest:st=setArr cK (abA st)
def SB.size {st:aaS}(h:SB lo a0 cK st):(abA st).size=a0.size:=h.perm.size_eq
theorem SB.put {st:aaS}(h:SB lo a0 cK st){l:Array aaT}(hp:l.Perm (abA st))(hs:∀k,k<lo->l[k]? = (abA st)[k]?):SB lo a0 cK (setArr st l):=by
 refine⟨hp.trans h.perm,λk hk=>(hs k hk).trans (h.same k hk),?_⟩;have:=h.rest;generalize abA st=z at this;subst this;rfl
theorem SB.mir {st:aaS}(h:SB lo a0 cK st)(hm:lo+m<=a0.size):SB lo a0 cK (setArr st (mirror (abA st) (lo+n) (lo+m) ((lo+m-(lo+n)) / 2))):=by
 refine h.put (mirror_perm _ _ _ _) λk hk=>?_;rw[getElem?_mirror_all (by rw[h.size];exact hm),hZ (by lia)]
theorem SB.bub {st:aaS}(h:SB lo a0 cK st){p d:Nat}(hp:lo+p<a0.size)(hd:d<=p):SB lo a0 cK (setArr st (bubble (abA st) (lo+p) d)):=by
 refine h.put (bubble_perm _ _ _) λk hk=>?_;rw[getElem?_bubble (by rw[h.size];exact hp) d (by lia),hZ (by lia),hZ (by lia)]
def SB.kind {st:aaS}(h:SB lo a0 cK st)(kd:abY cK=knd):abY st=knd:=by rw[h.rest];exact kd
theorem ud (C:l6 M A E s O key knd D){st:aaS}{Q:Option Bool->aaS->Prop}(kd:abY cK=knd)(hD:∀p∈a0.toList,D p)(hB:SB lo a0 cK st)(hi:i<a0.size)(hj:j<a0.size)(h:Q (some (O.blt (kx key (abA st) i) (kx key (abA st) j))) st):wpS M A E s (ltAt' i j) Q st:=by
 have fd:∀i,i<a0.size->∃p,(abA st)[i]? = some p/\D p/\kx key _ i=key p:=λi hi=>by
  have VU:i<(abA st).size:=by rw[hB.size];exact hi
  refine⟨(abA st)[i],getElem?_pos _ i VU,hD _ ((afG.mp hB.perm).mem_iff.mp (by simp)),?_⟩;unfold kx;rw[getElem?_pos _ i VU];rfl
 obtain⟨p,e1,d1,k1⟩:=fd i hi;obtain⟨q,e2,d2,k2⟩:=fd j hj;rw[k1,k2] at h;rw[ltAt'_eq];refine aaF (wpS_get ?_);dsimp only;rw[elem'_eq,elem'_eq,e1,e2];exact C.lt p q st Q d1 d2 (hB.kind kd) h
def xW {st:aaS}{Q:Unit->aaS->Prop}(h:Q () (setArr st (mirror (abA st) i j ((j-i) / 2)))):wpS M A E s (afo i j) Q st:=by
 exact aer h
theorem zN (C:l6 M A E s O key knd D){st:aaS}{Q:AscSt->aaS->Prop}(kd:abY cK=knd)(hD:∀p∈a0.toList,D p)(hm:lo+m<=a0.size)(n1:1<=n)(nm:n<=m)(hB:SB lo a0 cK st)(ha:Gn key lo (abA st) n)(h:∀r,n<=r->r<=m->Gn key lo (abA st) r->(r=m\/O.klt (kx key (abA st) (lo+r)) (kx key (abA st) (lo+r-1)))->Q (none,r) st):wpS M A E s (IY lo n m) Q st:=by
 refine abS (I:=λx c aN=>aN=st/\c=(none,x)/\Gn key lo _ x) ?go ?out ⟨rfl,rfl,ha⟩
 case out=>
  rintro c aN ⟨rfl,rfl,Bb⟩;have e:max n m=m:=by lia
  rw[e] at Bb ⊢;exact h m nm (aao _) Bb (.inl rfl)
 case go=>
  rintro x c aN h1 h2 ⟨rfl,rfl,Bb⟩;refine aaF (ud C kd hD hB (by lia) (by lia) ?_);cases e:O.blt _ _ with
  |true=>
   exact aaO (h x h1 (by lia) Bb (.inr e))
  |false=>
   refine aaO ⟨rfl,rfl,λi j A8 hj=>?_⟩;by_cases c1:j<x
   ·exact Bb i j A8 c1
   ·have:j=x:=by lia
    subst this;by_cases c2:i=j
    ·subst c2;exact ab3 _
    ·have:=Bb i (j-1) (by lia) (by lia);rw[show lo+(j-1)=lo+j-1 by lia] at this;exact aa8 this e
theorem zO (C:l6 M A E s O key knd D){st:aaS}{Q:Option Nat->aaS->Prop}(kd:abY cK=knd)(hD:∀p∈a0.toList,D p)(hm:lo+m<=a0.size)(n1:1<=n)(nm:n<=m)(hB:SB lo a0 cK st)(hd:S4 key lo (abA st) n)(h:∀r aN,SB lo a0 cK aN->1<=r->r<=m->Gn key lo (abA aN) r->Q (some r) aN):wpS M A E s (IZ lo n m) Q st:=by
 refine aaF (xW ?_);have Ww:=hB.mir (n:=0) (m:=n) (by lia);have hz:lo+n<=(abA st).size:=by rw[hB.size];lia
 refine aaF (zN C kd hD hm n1 nm Ww (λi j A8 hj=>?_) λr r1 r2 r3 _=>aaO (h r _ Ww (by lia) r2 r3));have e1:=BU (key:=key) (n:=0) hz i;have e2:=BU (key:=key) (n:=0) hz j;rw[Nat.add_zero,h9 (by lia)] at e1 e2;rw[e1,e2];exact hd _ _ (by lia) (by lia)
theorem Jb (C:l6 M A E s O key knd D){st:aaS}{Q:DescSt->aaS->Prop}(kd:abY cK=knd)(hD:∀p∈a0.toList,D p)(hm:lo+m<=a0.size)(n1:1<=n)(nm:n<=m)(hB:SB lo a0 cK st)(hd:S4 key lo (abA st) n)(h:∀r q aN,SB lo a0 cK aN->n<=r->r<=m->S4 key lo (abA aN) r->q+1<=r->(∀i,r-(q+1)<=i->i<r->kx key (abA aN) (lo+i)=kx key (abA aN) (lo+r-1))->Q (none,r,q) aN):wpS M A E s (O3 lo n m) Q st:=by
 refine abS (I:=λx c aN=>∃q,c=(none,x,q)/\SB lo a0 cK aN/\S4 key lo (abA aN) x/\q+1<=x/\∀i,x-(q+1)<=i->i<x->kx key (abA aN) (lo+i)=kx key (abA aN) (lo+x-1)) ?go ?out
  ⟨0,rfl,hB,hd,by lia,λi a1 a2=>by congr 1;lia⟩
 case out=>
  rintro c aN ⟨q,rfl,b1,b2,b3,b4⟩;have e:max n m=m:=by lia
  rw[e] at b2 b3 b4 ⊢;exact h m q aN b1 nm (aao _) b2 b3 b4
 case go=>
  rintro x c aN h1 h2 ⟨q,rfl,b1,b2,b3,b4⟩;have hz:lo+x<=(abA aN).size:=by rw[b1.size];lia
  unfold O2;dsimp only;refine aaF (ud C kd hD b1 (by lia) (by lia) ?_);cases e:O.blt _ _ with
  |true=>
   have nx:∀l ,(∀k,kx key l (lo+k)=kx key (abA aN) (lo+k))->S4 key lo l (x+1):=by
    intro l hl i j A8 hj;rw[hl,hl];by_cases c1:j<x
    ·exact b2 i j A8 c1
    ·have:j=x:=by lia
     subst this;by_cases c2:i=j
     ·subst c2;exact ab3 _
     ·have:=b2 i (j-1) (by lia) (by lia);rw[show lo+(j-1)=lo+j-1 by lia] at this;exact aa8 (abn e) this
   by_cases c:q>0
   ·rw[h9 c];refine aaF (xW ?_);have e3:lo+x-(q+1)=lo+(x-(q+1)):=by lia
    rw[e3];refine aaO ⟨0,rfl,b1.mir (by lia),nx _ (gb hz b4),by lia,λi a1 a2=>?_⟩;congr 1;lia
   ·rw[hZ c];exact aaO ⟨0,rfl,b1,nx _ (λ_=>rfl),by lia,λi a1 a2=>by congr 1;lia⟩
  |false=>
   refine aaF (ud C kd hD b1 (by lia) (by lia) ?_);cases e2:O.blt _ _ with
   |true=>
    exact aaO (h x q aN b1 h1 (by lia) b2 b3 b4)
   |false=>
    have eq:=KeyOrd.kle_antisymm e2 e;refine aaO ⟨q+1,rfl,b1,λi j A8 hj=>?_,by lia,λi a1 a2=>?_⟩
    ·by_cases c1:j<x
     ·exact b2 i j A8 c1
     ·have:j=x:=by lia
      subst this;by_cases c2:i=j
      ·subst c2;exact ab3 _
      ·rw[eq];have:=b2 i (j-1) (by lia) (by lia);rw[show lo+(j-1)=lo+j-1 by lia] at this;exact this
    ·rw[show lo+(x+1)-1=lo+x by lia];by_cases c1:i=x
     ·subst c1;rfl
     ·rw[eq];exact b4 i (by lia) (by lia)
theorem zP (C:l6 M A E s O key knd D){st:aaS}{Q:Option Nat->aaS->Prop}(kd:abY cK=knd)(hD:∀p∈a0.toList,D p)(hm:lo+m<=a0.size)(nm:n+1<=m)(hB:SB lo a0 cK st)(hd:S4 key lo (abA st) (n+1))(h:∀r aN,SB lo a0 cK aN->1<=r->r<=m->Gn key lo (abA aN) r->Q (some r) aN):wpS M A E s (I_ lo n m) Q st:=by
 refine aaF (wpS_lift (acU ⟨rfl,?_⟩));refine aaF (Jb C kd hD hm (by lia) nm hB hd λr q aN b1 r1 r2 b2 b3 b4=>?_);dsimp only;have hz:lo+r<=(abA aN).size:=by rw[b1.size];lia
 by_cases c:q>0
 ·rw[h9 c];refine aaF (xW ?_);have e3:lo+r-(q+1)=lo+(r-(q+1)):=by lia
  rw[e3];refine zO C kd hD hm (by lia) r2 (b1.mir (by lia)) (λi j A8 hj=>?_) h;have e1:=gb hz b4 i;have e2:=gb hz b4 j;rw[e1,e2];exact b2 i j A8 hj
 ·rw[hZ c];exact zO C kd hD hm (by lia) r2 b1 b2 h
theorem zQ (C:l6 M A E s O key knd D){st:aaS}{Q:Option Nat->aaS->Prop}(kd:abY cK=knd)(hD:∀p∈a0.toList,D p)(hm:lo+m<=a0.size)(m1:1<=m)(hB:SB lo a0 cK st)(h:∀r aN,SB lo a0 cK aN->1<=r->r<=m->Gn key lo (abA aN) r->Q (some r) aN):wpS M A E s (countRun' lo m) Q st:=by
 rw[zL];refine aaF (zN C kd hD hm (aao 1) m1 hB (λi j A8 hj=>by rw[show i=j by lia];exact ab3 _) λn n1 n2 ha ho=>?_);by_cases c:n=m
 ·rw[h9 (by simpa using c)];exact aaO (h n st hB n1 n2 ha)
 ·rw[hZ (by simpa using c)];have hl:=ho.resolve_left c;by_cases c2:n>1
  ·rw[h9 c2];refine aaF (ud C kd hD hB (by lia) (by lia) ?_);cases e:O.blt _ _ with
   |true=>
    exact aaO (h n st hB n1 n2 ha)
   |false=>
    have hz:lo+n<=(abA st).size:=by rw[hB.size];lia
    have al:∀k,0<=k->k<n->kx key (abA st) (lo+k)=kx key (abA st) (lo+n-1):=by
     intro k _ hk;have p1:=ha 0 k (by lia) hk;have p2:=ha k (n-1) (by lia) (by lia);rw[show lo+(n-1)=lo+n-1 by lia] at p2;exact KeyOrd.kle_antisymm p2 (aa8 (e) p1)
    refine aaF (xW ?_);have Ww:=hB.mir (n:=0) (m:=n) (by lia);refine zP C kd hD hm (by lia) Ww (λi j A8 hj=>?_) h;have e1:=gb hz al i;have e2:=gb hz al j;rw[Nat.add_zero] at e1 e2;rw[e1,e2];by_cases c3:j<n
    ·rw[al i (by lia) (by lia),al j (by lia) c3];exact ab3 _
    ·have:j=n:=by lia
     subst this;by_cases c4:i=j
     ·subst c4;exact ab3 _
     ·rw[al i (by lia) (by lia)];exact abn hl
  ·have:n=1:=by lia
   subst this;refine zP C kd hD hm (by lia) hB (λi j A8 hj=>?_) h;by_cases c4:i=j
   ·subst c4;exact ab3 _
   ·have Yj:i=0:=by lia
    have Z_:j=1:=by lia
    subst Yj;subst Z_;exact abn hl
theorem BV (C:l6 M A E s O key knd D){st:aaS}{ok:Nat}{Q:Bool->aaS->Prop}(kd:abY cK=knd)(hD:∀p∈a0.toList,D p)(hn:lo+n<=a0.size)(hok:ok<=n)(hB:SB lo a0 cK st)(ha:Gn key lo (abA st) ok)(h:∀aN,SB lo a0 cK aN->Gn key lo (abA aN) n->Q true aN):wpS M A E s (binarySort' lo n ok) Q st:=by
 rw[binarySort'_eq];refine aaF (ac2 (abS (I:=λk c aN=>c=(none,())/\SB lo a0 cK aN/\Gn key lo (abA aN) (min k n))
  (Q:=λc aN=>c=(none,())/\SB lo a0 cK aN/\Gn key lo (abA aN) n) ?go ?out ?yN) ?end_)
 case end_=>
  rintro c aN ⟨rfl,b1,b2⟩;exact aaO (h aN b1 b2)
 case yN=>
  refine⟨rfl,hB,λi j A8 hj=>?_⟩;by_cases c:ok=0
  ·rw[show i=j by lia];exact ab3 _
  ·exact ha i j A8 (by lia)
 case out=>
  rintro c aN ⟨e,b1,b2⟩;have e2:min (max (max ok 1) n) n=n:=by lia
  rw[e2] at b2;exact⟨e,b1,b2⟩
 case go=>
  rintro k c CB Gq A_ ⟨rfl,b1,b2⟩;have e1:min k n=k:=by lia
  rw[e1] at b2;have hk:lo+k<a0.size:=by lia
  refine aaF (ac2 (abS (I:=λx c lN=>lN=CB/\∃l r,c=(none,l,r)/\l<=r/\r<=k/\r-l<=k-x/\
    (∀i,i<l->O.kle (kx key (abA CB) (lo+i)) (kx key (abA CB) (lo+k)))/\∀i,r<=i->i<k->O.klt (kx key (abA CB) (lo+k)) (kx key (abA CB) (lo+i)))
   (Q:=λc lN=>lN=CB/\∃l,c=(none,l,l)/\l<=k/\(∀i,i<l->O.kle (kx key (abA CB) (lo+i)) (kx key (abA CB) (lo+k)))/\∀i,l<=i->i<k->O.klt (kx key (abA CB) (lo+k)) (kx key (abA CB) (lo+i))) ?go2 ?out2 ?Yk) ?end2)
  case Yk=>exact⟨rfl,0,k,rfl,by lia,by lia,by lia,λi hi=>by lia,λi a1 a2=>by lia⟩
  case out2=>
   rintro c lN ⟨rfl,l,r,rfl,q1,q2,q3,q4,q5⟩;have:l=r:=by lia
   subst this;exact⟨rfl,l,rfl,q2,q4,q5⟩
  case go2=>
   rintro x c lN _ hx ⟨rfl,l,r,rfl,q1,q2,q3,q4,q5⟩;dsimp only;by_cases c:l≥r
   ·rw[h9 c];have:l=r:=by lia
    subst this;exact aaO ⟨rfl,l,rfl,q2,q4,q5⟩
   ·rw[hZ c];refine aaF (ud C kd hD b1 hk (by lia) ?_);cases e:O.blt _ _ with
    |true=>
     exact aaO ⟨rfl,l,(l+r) / 2,rfl,by lia,by lia,by lia,q4,λi a1 a2=>KeyOrd.klt_of_klt_of_kle e (b2 _ _ a1 a2)⟩
    |false=>
     exact aaO ⟨rfl,(l+r) / 2+1,r,rfl,by lia,by lia,by lia,λi a1=>aa8 (b2 i _ (by lia) (by lia)) (e),q5⟩
  case end2=>
   rintro c lN ⟨rfl,l,rfl,q2,q4,q5⟩;dsimp only;rw[moveDown'_eq];have e2:lo+k-(lo+l)=k-l:=by lia
   refine aaF (aer (aaO ⟨rfl,?_,?_⟩))
   ·exact b1.bub hk (by lia)
   ·have hz:lo+k<(abA lN).size:=by rw[b1.size];exact hk
    intro i j A8 hj;rw[e2,Ja hz (by lia),Ja hz (by lia),show k-(k-l)=l by lia]
    repeat' split
    all_goals first
     | (lia)
     |exact ab3 _
     |exact q4 _ (by lia)
     |exact abn (q5 _ (by lia) (by lia))
     |exact b2 _ _ (by lia) (by lia)
end
end Hc.Ts
namespace Hc.Ts
noncomputable def BW (lo n:Nat):StateT aaS Sem (ForInStep (Option Unit×Nat)):=do
 modify λst=>setPending st ((abj st).push (lo,n,0))
 pure (.yield (none,lo+n))
noncomputable def YN (pw:Nat)(_:Nat)(_:Option Unit×Unit):StateT aaS Sem (ForInStep (Option Unit×Unit)):=do
 let st ←get
 let some (_,_,Lc):=(if (abj st).size>1 then (abj st)[(abj st).size-2]? else none)|pure (.done (none,()))
 if Lc<=pw then pure (.done (none,())) else do
  let r ←mergeAt' ((abj st).size-2)
  if (!r)=true then pure (.done (some (),())) else pure (.yield (none,()))
noncomputable def Xu (pw:Nat)(st:aaS):aaS:=setPending st ((abj st).modify ((abj st).size-1) λx=>match x with|(p,n,_)=>(p,n,pw))
noncomputable def UW (size lo n pw:Nat):StateT aaS Sem (ForInStep (Option Unit×Nat)):=do
 let c ←forIn [0:size] ((none,()):Option Unit×Unit) (YN pw)
 match c.1 with
 |some r=>pure (.done (some r,lo))
 |none=>do
  modify (Xu pw)
  BW lo n
noncomputable def Xv (size lo n:Nat):StateT aaS Sem (ForInStep (Option Unit×Nat)):=do
 let st ←get
 let some (p1,n1,_):=(abj st).back? | BW lo n
 UW size lo n (power' size (2*p1+n1) (2*p1+n1+n1+n) size)
noncomputable def Xw (size p8:Nat)(_:Nat)(c:Option Unit×Nat):StateT aaS Sem (ForInStep (Option Unit×Nat)):=
 if c.2≥size then pure (.done (none,c.2)) else do
  let some n ←countRun' c.2 (size-c.2)|pure (.done (some (),c.2))
  if n<p8 then do
   liftM (rule "list.sort.binary-insertion")
   let r ←binarySort' c.2 (min (size-c.2) p8) n
   if (!r)=true then pure (.done (some (),c.2)) else Xv size c.2 (min (size-c.2) p8)
  else Xv size c.2 n
noncomputable def Xx (p:Array (Nat×Nat×Nat)):Nat:=
 if Option.any (λx=>decide (x<(p[p.size-2+1]?).elim 0 λx=>x.2.1)) (if p.size-2>0 then Option.map (λx=>x.2.1) p[p.size-2-1]? else none)=true then p.size-2-1 else p.size-2
noncomputable def YO (_:Nat)(_:Option Unit×Unit):StateT aaS Sem (ForInStep (Option Unit×Unit)):=do
 let st ←get
 if (abj st).size<=1 then pure (.done (none,())) else do
  let r ←mergeAt' (Xx (abj st))
  if (!r)=true then pure (.done (some (),())) else pure (.yield (none,()))
theorem xX:sortRuns'=(do
  let st ←get
  let c ←forIn [0:(abA st).size] ((none,0):Option Unit×Nat) (Xw (abA st).size (minRun' (abA st).size (abA st).size 0))
  match c.1 with
  |some r=>pure r
  |none=>do
   let d ←forIn [0:(abA st).size] ((none,()):Option Unit×Unit) YO
   match d.1 with
   |some r=>pure r
   |none=>pure ()):=by kernel_rfl
section
variable {A:aba}{O:agb}{key:aaT->O.α}{knd:aeG}{D:aaT->Prop}
def vt (key:aaT->O.α):Nat->List (List aaT)->List (Nat×Nat×Nat)->Prop
 |_,[],[]=>True
 |p,g::gs,e::es=>e.1=p/\e.2.1=g.length/\0<g.length/\iE key g/\vt key (p+g.length) gs es
 |_,_,_=>False
theorem vt.len:∀{p:Nat} {gs:List (List aaT)} {es:List (Nat×Nat×Nat)},vt key p gs es->gs.length=es.length/\gs.length<=gs.flatten.length
 |_,[],[],_=>⟨rfl,aao _⟩
 |p,g::gs,e::es,h=>by
  obtain⟨h1,h2⟩:=vt.len h.2.2.2.2;have:=h.2.2.1;rw[abe,aaj,aat,aat];lia
theorem vt.app:∀{p:Nat} {gs:List (List aaT)} {es:List (Nat×Nat×Nat)} {gs2:List (List aaT)} {es2:List (Nat×Nat×Nat)},vt key p gs es->vt key (p+gs.flatten.length) gs2 es2->vt key p (gs++gs2) (es++es2)
 |_,[],[],_,_,_,h2=>h2
 |p,g::gs,e::es,gs2,es2,h,h2=>by
  refine⟨h.1,h.2.1,h.2.2.1,h.2.2.2.1,vt.app h.2.2.2.2 ?_⟩;rw[abe,aaj,←adi] at h2;exact h2
theorem vt.split:∀{i p:Nat} {gs:List (List aaT)} {es:List (Nat×Nat×Nat)},vt key p gs es->i+1<es.length->∃g1 x y g2 e1 pw pw2 e2,gs=g1++x::y::g2/\es=e1++(p+g1.flatten.length,x.length,pw)::(p+g1.flatten.length+x.length,y.length,pw2)::e2/\e1.length=i/\vt key p g1 e1/\0<x.length/\iE key x/\0<y.length/\iE key y/\vt key (p+g1.flatten.length+x.length+y.length) g2 e2
 |0,p,x::y::g2,(a,b,pw)::(c,d,pw2)::e2,h,_=>by
  obtain⟨h1,h2,h3,h4,k1,k2,k3,k4,h5⟩:=h;subst h1;subst h2;subst k1;subst k2;exact⟨[],x,y,g2,[],pw,pw2,e2,rfl,rfl,rfl,trivial,h3,h4,k3,k4,h5⟩
 |0,p,[x],[e],h,hl=>absurd hl (by simp)
 |0,p,[],[],h,hl=>absurd hl (by simp)
 |0,p,[x],_::_::_,h,hl=>h.2.2.2.2.elim
 |0,p,_::_::_,[e],h,hl=>h.2.2.2.2.elim
 |i+1,p,[],[],h,hl=>absurd hl (by simp)
 |i+1,p,g::gs,e::es,h,hl=>by
  obtain⟨g1,x,y,g2,e1,pw,pw2,e2,q1,q2,q3,q4,q5⟩:=vt.split h.2.2.2.2 (by simpa using hl);refine⟨g::g1,x,y,g2,e::e1,pw,pw2,e2,by rw[q1];rfl,?_,by rw[aat,q3],⟨h.1,h.2.1,h.2.2.1,h.2.2.2.1,q4⟩,?_⟩
  ·rw[q2,abe,aaj,←adi];rfl
  ·rw[abe,aaj,←adi];exact q5
theorem vt.power {f:Nat×Nat×Nat->Nat×Nat×Nat}(hf:∀e,(f e).1=e.1/\(f e).2.1=e.2.1):∀{i p:Nat} {gs:List (List aaT)} {es:List (Nat×Nat×Nat)},vt key p gs es->vt key p gs (es.modify i f)
 |_,_,[],[],_=>by rw[List.modify_nil];exact trivial
 |0,p,g::gs,e::es,h=>by
  exact⟨(hf e).1.trans h.1,(hf e).2.trans h.2.1,h.2.2⟩
 |i+1,p,g::gs,e::es,h=>by
  exact⟨h.1,h.2.1,h.2.2.1,h.2.2.2.1,vt.power hf h.2.2.2.2⟩
structure SI (key:aaT->O.α)(knd:aeG)(a0:Array aaT)(lo:Nat)(rest:List aaT)(st:aaS):Prop where
 failed:aeH st=none
 kind:abY st=knd
 perm:(abA st).toList.Perm a0.toList
 segs:∃gs:List (List aaT),(abA st).toList=gs.flatten++rest/\gs.flatten.length=lo/\vt key 0 gs (abj st).toList
variable {a0:Array aaT}{lo:Nat}{rest:List aaT}
theorem SI.size {st:aaS}(h:SI key knd a0 lo rest st):lo+rest.length=a0.size:=by
 obtain⟨gs,e,l,_⟩:=h.segs;have:=h.perm.length_eq;rw[e,aaj,l] at this;exact this
theorem SI.few {st:aaS}(h:SI key knd a0 lo rest st):(abj st).size<=lo:=by
 obtain⟨gs,e,l,p⟩:=h.segs;have h1:=p.len;have h2:(abj st).toList.length=(abj st).size:=aay;lia
theorem SI.merge (C:l6 M A E s O key knd D)(hD:∀p∈a0.toList,D p){st:aaS}(h:SI key knd a0 lo rest st)(hi:i+1<(abj st).size){Q:Bool->aaS->Prop}(q:∀aN,SI key knd a0 lo rest aN->(abj aN).size+1=(abj st).size->Q true aN):wpS M A E s (mergeAt' i) Q st:=by
 obtain⟨gs,e,l,p⟩:=h.segs;obtain⟨g1,x,y,g2,e1,pw,pw2,e2,q1,q2,q3,q4,x0,sx,y0,sy,q5⟩:=p.split (by exact hi);rw[adg] at q2 q5;subst q3;have ea:(abA st).toList=g1.flatten++(x++(y++(g2.flatten++rest))):=by
  rw[e,q1,acp,abe,abe];simp only[aaP]
 have mem:=λp hp=>hD p (h.perm.mem_iff.mp hp);refine BS C (pw:=pw) (pw2:=pw2) h.failed h.kind ea ?_ ?_ (λp hp=>mem p (by rw[ea];simp[hp])) (λp hp=>mem p (by rw[ea];simp[hp])) sx sy x0 y0 λz g hz sz=>q _ ?_ ?_
 ·rw[←aa5,q2,abW (aao _),Nat.sub_self];rfl
 ·rw[←aa5,q2,abW (acD _ 1),abU];rfl
 all_goals
  have ep:(DP (abj st) e1.length g1.flatten.length (x.length+y.length) pw).toList=e1++(g1.flatten.length,x.length+y.length,pw)::e2:=by
   unfold DP;rw[Array.toList_eraseIdxIfInBounds,afF,q2,List.set_append_right _ _ (aao _),Nat.sub_self,List.eraseIdx_append_of_length_le (acD _ 1),abU];rfl
 ·refine⟨h.failed,h.kind,?_,g1++z::g2,?_,?_,?_⟩
  ·refine age.trans ?_ h.perm;rw[ea];refine ab8 _ ?_;rw[←aaP x];exact abZ _ hz
  ·rw[acp,abe];simp only[aaP]
  ·rw[←l,q1,acp,acp,abe,abe,abe];have:=hz.length_eq;rw[aaj] at this;simp only[aaj];lia
  ·have hl:z.length=x.length+y.length:=by rw[hz.length_eq,aaj]
   rw[ep];refine q4.app ⟨by rw[adg],hl.symm,by lia,sz,?_⟩;rw[adg,hl,←adi];exact q5
 ·rw[←aay,ep,←aay,q2];simp only[aaj,aat];lia
theorem Ro (C:l6 M A E s O key knd D)(hD:∀p∈a0.toList,D p){st:aaS}(h:SI key knd a0 lo rest st){pw:Nat}{c:Option Unit×Unit}{Q:ForInStep (Option Unit×Unit)->aaS->Prop}(q1:∀aN,SI key knd a0 lo rest aN->Q (.done (none,())) aN)(q2:∀aN,SI key knd a0 lo rest aN->Q (.yield (none,())) aN):wpS M A E s (YN pw i c) Q st:=by
 refine aaF (wpS_get ?_);by_cases c1:(abj st).size>1
 ·rw[h9 c1,getElem?_pos _ _ (by lia)];obtain⟨a,b,Lc⟩:=(abj st)[(abj st).size-2];dsimp only;split
  ·exact aaO (q1 st h)
  ·refine aaF (h.merge C hD (by lia) λaN h' _=>?_);exact aaO (q2 aN h')
 ·rw[hZ c1];exact aaO (q1 st h)
theorem wu {st:aaS}(h:SI key knd a0 lo rest st){Q:ForInStep (Option Unit×Nat)->aaS->Prop}(n1:1<=n)(n2:n<=rest.length)(sr:iE key (rest.take n))(q:∀aN,SI key knd a0 (lo+n) (rest.drop n) aN->Q (.yield (none,lo+n)) aN):wpS M A E s (BW lo n) Q st:=by
 refine aaF (aer (aaO (q _ ?_)));obtain⟨gs,e,l,p⟩:=h.segs;have hl:(rest.take n).length=n:=by rw[aaE];lia
 refine⟨h.failed,h.kind,h.perm,gs++[rest.take n],?_,?_,?_⟩
 ·rw[e,acp,aaP];rw[abe,aff,aa2,abg]
 ·rw[acp,aaj,l,abe,aff,aa2,hl]
 ·rw[adU];exact p.app ⟨by rw[adg,l],hl.symm,by lia,sr,trivial⟩
theorem Jc (C:l6 M A E s O key knd D)(hD:∀p∈a0.toList,D p){st:aaS}(h:SI key knd a0 lo rest st){size:Nat}{Q:ForInStep (Option Unit×Nat)->aaS->Prop}(n1:1<=n)(n2:n<=rest.length)(sr:iE key (rest.take n))(q:∀aN,SI key knd a0 (lo+n) (rest.drop n) aN->Q (.yield (none,lo+n)) aN):wpS M A E s (Xv size lo n) Q st:=by
 refine aaF (wpS_get ?_);cases e:(abj st).back? with
 |none=>exact wu h n1 n2 sr q
 |some v=>
  refine aaF (ac2 (abS (I:=λx c aN=>c=(none,())/\SI key knd a0 lo rest aN) ?go (λ_ _ z=>z) ⟨rfl,h⟩) ?fin)
  case go=>
   rintro x c aN _ _ ⟨rfl,h'⟩;exact Ro C hD h' (λlN z=>⟨rfl,z⟩) λlN z=>⟨rfl,z⟩
  case fin=>
   rintro c aN ⟨rfl,h'⟩;refine aaF (aer (wu ?_ n1 n2 sr q));obtain⟨gs,e,l,p⟩:=h'.segs;refine⟨h'.failed,h'.kind,h'.perm,gs,e,l,?_⟩;show vt key 0 gs ((abj aN).modify _ _).toList;rw[Array.toList_modify];refine vt.power (λe=>?_) p;exact⟨rfl,rfl⟩
theorem Mw {l:Array aaT}{P R:List aaT}(e:l.toList=P++R)(h:Gn key P.length l n):iE key (R.take n):=by
 refine ac4.mpr λi j hi hj A8=>?_;rw[aaE] at hi hj;have at_:∀k,(hk:k<R.length)->kx key l (P.length+k)=key R[k]:=λk hk=>by
  unfold kx;rw[←aa5,e,abW (acD _ _),abU,aac hk];rfl
 have:=h i j (by lia) (by lia);rw[at_ i (by lia),at_ j (by lia)] at this;rw[adT,adT];exact this
theorem SI.run {cK st:aaS}(h:SI key knd a0 lo rest cK)(b:SB lo (abA cK) cK st):∃r,SI key knd a0 lo r st/\r.length=rest.length/\∀n,Gn key lo (abA st) n->iE key (r.take n):=by
 obtain⟨gs,e,l,p⟩:=h.segs;have hp:=afG.mp b.perm;have ht:(abA st).toList.take lo=gs.flatten:=by
  apply aeW;intro k;rw[aeI];split
  ·rename_i c;rw[aa5,b.same k c,←aa5,e,acs (by lia)]
  ·rw[ae8 (by lia)]
 have e2:(abA st).toList=gs.flatten++(abA st).toList.drop lo:=by
  conv=>lhs;rw[←abg lo (abA st).toList,ht]
 refine⟨(abA st).toList.drop lo,⟨?_,?_,hp.trans h.perm,gs,e2,l,?_⟩,?_,λn hn=>?_⟩
 ·rw[b.rest];exact h.failed
 ·rw[b.rest];exact h.kind
 ·rw[b.rest];exact p
 ·have:=hp.length_eq;rw[e,aaj] at this;rw[abb];lia
 ·subst l;exact Mw e2 hn
theorem Rq (C:l6 M A E s O key knd D)(hD:∀p∈a0.toList,D p){st:aaS}{p8:Nat}{c:Option Unit×Nat}(h:SI key knd a0 c.2 rest st){Q:ForInStep (Option Unit×Nat)->aaS->Prop}(q1:SI key knd a0 a0.size [] st->c.2=a0.size->Q (.done (none,a0.size)) st)(q2:∀n r aN,1<=n->SI key knd a0 (c.2+n) r aN->Q (.yield (none,c.2+n)) aN):wpS M A E s (Xw a0.size p8 i c) Q st:=by
 obtain⟨c1,lo⟩:=c;have hs:=h.size;unfold Xw;dsimp only;by_cases c2:lo≥a0.size
 ·rw[h9 c2];have e1:lo=a0.size:=by lia
  have e2:rest=[]:=abJ (by lia);subst e1;subst e2;exact aaO (q1 h rfl)
 ·rw[hZ c2];have Zg:=λp hp=>hD p (h.perm.mem_iff.mp hp);have hz:=by have:=h.perm.length_eq;rwa [aay,aay] at this
  have b0:SB lo _ st st:=⟨Array.Perm.refl _,λ_ _=>rfl,rfl⟩;refine aaF (zQ C h.kind Zg (by lia) (by lia) b0 λn aN b1 n1 n2 ha=>?_);dsimp only;by_cases c3:n<p8
  ·rw[h9 c3];refine aaF (wpS_lift (acU ⟨rfl,?_⟩));refine aaF (BV C h.kind Zg (by lia) (by lia) b1 ha λlN b2 Tb=>?_);obtain⟨r,h',hl,hr⟩:=h.run b2;exact Jc C hD h' (by lia) (by lia) (hr _ Tb) λLe h3=>q2 _ _ Le (by lia) h3
  ·rw[hZ c3];obtain⟨r,h',hl,hr⟩:=h.run b1;exact Jc C hD h' n1 (by lia) (hr _ ha) λLe h3=>q2 _ _ Le n1 h3
theorem Rr {p:Array (Nat×Nat×Nat)}(h:¬p.size<=1):Xx p+1<p.size:=by
 unfold Xx;generalize (Option.any _ _)=z;cases z with
 |true=>rw[h9 rfl];lia
 |false=>rw[hZ aaz];lia
theorem zS (C:l6 M A E s O key knd D)(hD:∀p∈a0.toList,D p){st:aaS}(hk:abY st=knd)(hf:aeH st=none)(ha:abA st=a0)(hp:abj st=#[]){Q:Unit->aaS->Prop}
  (q:∀aN,aeH aN=none->(abA aN).toList.Perm a0.toList->iE key (abA aN).toList->Q () aN):wpS M A E s sortRuns' Q st:=by
 rw[xX];refine aaF (wpS_get ?_);rw[ha];have h0:SI key knd a0 0 a0.toList st:=⟨hf,hk,by rw[ha],[],by rw[ha];rfl,rfl,by rw[hp];exact trivial⟩;refine aaF (ac2 (abS (I:=λx c aN=>c.1=none/\x<=c.2/\∃r,SI key knd a0 c.2 r aN) (Q:=λc aN=>c.1=none/\SI key knd a0 a0.size [] aN) ?go ?out ⟨rfl,aao _,_,h0⟩) ?post)
 case out=>
  rintro⟨c1,lo⟩ aN ⟨e,hx,r,h⟩;dsimp only at e hx h;have hs:=h.size;have e1:lo=a0.size:=by lia
  have e2:r=[]:=abJ (by lia);subst e1;subst e2;exact⟨e,h⟩
 case go=>
  rintro x c aN _ hx ⟨e,hx2,r,h⟩;refine Rq C hD h (λh1 h2=>⟨rfl,h1⟩) λn r lN n1 h2=>⟨rfl,?_,r,h2⟩;show x+1<=c.2+n;lia
 case post=>
  rintro⟨c1,lo⟩ aN ⟨e,h⟩;dsimp only at e ⊢;subst e;dsimp only;refine aaF (ac2 (abS (I:=λx c aN=>c=(none,())/\SI key knd a0 a0.size [] aN/\(abj aN).size+x<=a0.size) (Q:=λc aN=>c=(none,())/\SI key knd a0 a0.size [] aN/\(abj aN).size<=1) ?_ ?_ ⟨rfl,h,by have:=h.few;lia⟩) ?_)
  ·rintro x c lN _ hx ⟨rfl,h2,h3⟩;unfold YO;refine aaF (wpS_get ?_);by_cases c:(abj lN).size<=1
   ·rw[h9 c];exact aaO ⟨rfl,h2,c⟩
   ·rw[hZ c];refine aaF (h2.merge C hD (Rr c) λLe h4 h5=>?_);rw[hZ (by decide)];exact aaO ⟨rfl,h4,by lia⟩
  ·rintro c lN ⟨rfl,h2,h3⟩;exact⟨rfl,h2,by lia⟩
  ·rintro c lN ⟨rfl,h2,h3⟩;refine aaO (q lN h2.failed h2.perm ?_);obtain⟨gs,e,l,p⟩:=h2.segs;rw[e,aa2]
   match gs,(abj lN).toList,p,(show (abj lN).toList.length<=1 by rw[aay];exact h3) with
   | [],_,_,_=>exact List.Pairwise.nil
   | [g],[e1],p,_=>
    rw[abe,aff,aa2];exact p.2.2.2.1
   |g::g2::gs,[e1],p,_=>exact p.2.2.2.2.elim
   |g::gs,e1::e2::es,p,hl=>exact absurd hl (by simp)
end
end Hc.Ts
namespace Hc.Ts
section
variable {w:abq}{A:aba}{O:agb}{key:aaT->O.α}{knd:aeG}{D:aaT->Prop}
theorem wx {vs:List aak}{l:List aaT}(h:l.Perm (vs.zip vs)):(l.map (·.2)).Perm vs/\∀p∈l,p=(p.2,p.2):=by
 have e:(vs.zip vs).map (·.2)=vs:=by
  induction vs with
  |nil=>rfl
  |cons v r ih=>rw[aeJ,aag,List.map_snd_zip (by simp)]
 refine⟨by have:=h.map (·.2);rwa [e] at this,λp hp=>?_⟩;have hp:=h.mem_iff.mp hp;clear h e
 induction vs with
 |nil=>cases hp
 |cons v r ih=>
  rw[aeJ,aaw] at hp;rcases hp with hp|hp
  ·subst hp;rfl
  ·exact ih hp
theorem Jd {vs:List aak}{P:Fin->aaD->Prop}(ho:s.heap.get? a=some (seqObj "list" vs.toArray n))(hz:vs.length<=1000000)(hk:2<=vs.length->∀(h6:acP) (Q:aeG->aaD->Prop),(∀b o,b≠a->s.heap.get? b=some o->h6.get? b=some o)->Q knd {s with heap:=h6}->aaW (aa1 prog w) A (keyKind' vs.toArray) Q E {s with heap:=h6})(hC:2<=vs.length->∀h6:acP,(∀b o,b≠a->s.heap.get? b=some o->h6.get? b=some o)->l6 (aa1 prog w) A E {s with heap:=h6} O key knd D)(hD:∀v∈vs,D (v,v))(h:∀out:List aak,out.Perm vs->out.Pairwise (λx y=>O.kle (key (x,x)) (key (y,y)))->P (.done (.ret .none)) {s with heap:=sortedHeap s.heap a vs out.toArray}) :
  aaW (aa1 prog w) A (Builtin.«list.sort» ⟨[.ref a],[]⟩) P E s:=by
 have Lf:vs.length<=aah:=by rw[ack];lia
 have la:a<s.heap.objs.size:=aaA ho;rw[list_sort_plain];refine aaa (listItems_at ho rfl (aaa (listUpdate_at ho rfl ?_ (hsz:=by rw[aax];exact Lf))));obtain⟨e1,o1⟩:∃e1,(s.heap.update a (aeS λ_=>#[])).get? a=some (seqObj "list" #[] e1):=⟨_,get?_update_seq ho (λ_=>#[])⟩;refine aaa (seqEpoch_at o1 rfl (aaa (wpAny_newTuple (aaa (wpAny_newList (abt ?_))) (by simpa using Lf))));have kp:∀b o,b≠a->s.heap.get? b=some o->(((s.heap.update a (aeS λ_=>#[])).push (seqObj "tuple" vs.toArray 0)).push (seqObj "list" #[] 0)).get? b=some o:=λb o hb e=>
  aad _ (aad _ ((Heap.get?_update_ne _ _ _ _ hb).trans e))
 have o6:(((s.heap.update a (aeS λ_=>#[])).push (seqObj "tuple" vs.toArray 0)).push (seqObj "list" #[] 0)).get? a=some (seqObj "list" #[] e1):=aad _ (aad _ o1);change aaW (aa1 prog w) A _ P E {s with heap:=((s.heap.update a (aeS λ_=>#[])).push (seqObj "tuple" vs.toArray 0)).push (seqObj "list" #[] 0)};dsimp only;have fin:∀aN:aaS,aeH aN=none->(abA aN).toList.Perm (pairsOf vs).toList->iE key (abA aN).toList->aaW (aa1 prog w) A (do
   let touched:=(←seqEpoch a) != e1
   Builtin.List.listUpdate (.ref a) λ_=>(abA aN).map (·.2)
   if let some e:=aeH aN then rule "list.sort.comparison-raised";throw e
   if touched then rule "list.sort.modified";raiseError "ValueError" "list modified during sort"
   ret .none) P E {s with heap:=((s.heap.update a (aeS λ_=>#[])).push (seqObj "tuple" vs.toArray 0)).push (seqObj "list" #[] 0)}:=by
  intro aN f1 f2 f3;rw[pairsOf_toList] at f2;obtain⟨m1,m2⟩:=wx f2;refine aaa (seqEpoch_at o6 rfl (aaa (listUpdate_at o6 rfl ?_ (hsz2:=by
   rw[Array.size_map,←aay,f2.length_eq,List.length_zip,Nat.min_self];lia))))
  rw[f1];simp only[bne_self_eq_false,aeF,if_false];refine aae ?_;have e:(abA aN).map (·.2)=((abA aN).toList.map (·.2)).toArray:=by apply Array.ext';simp
  rw[e];refine h _ m1 (adV.mpr (af3 (λ{x y} hx hy r=>?_) f3));rw[←m2 x hx,←m2 y hy];exact r
 by_cases h2:vs.length<2
 ·rw[h9 (by rw[aax];exact h2),h9 (by rw[aax];exact h2)];refine aaa (aae ?_);rw[StateT.run_pure];refine aaa (aae ?_);refine fin (SortSt.mk' general' (vs.toArray.zip vs.toArray) #[] 7 none) rfl (acd _) ?_;change iE key (pairsOf vs).toList;rw[pairsOf_toList]
  match vs,h2 with
  | [],_=>exact List.Pairwise.nil
  | [v],_=>exact aeE _ _
  |_::_::_,h2=>exact absurd h2 (by simp)
 ·rw[hZ (by rw[aax];exact h2),hZ (by rw[aax];exact h2)];refine aaa (hk (by lia) _ _ kp ?_);refine aaa (abk (zS (hC (by lia) _ kp) (a0:=pairsOf vs) (λp hp=>?_) (st:=SortSt.mk' knd (vs.toArray.zip vs.toArray) #[] 7 none) rfl rfl rfl rfl
   (Q:=λ_ aN=>aeH aN=none/\(abA aN).toList.Perm (pairsOf vs).toList/\iE key (abA aN).toList) λaN a1 a2 a3=>⟨a1,a2,a3⟩) ?_ λ_ _ e=>e)
  ·rw[pairsOf_toList] at hp;obtain⟨m1,m2⟩:=wx (acd (vs.zip vs));rw[m2 p hp];exact hD _ (m1.mem_iff.mp (aaI hp))
  ·rintro⟨⟨⟩,aN⟩ s' ⟨rfl,f1,f2,f3⟩;exact fin aN f1 f2 f3
end
end Hc.Ts
namespace Hc.Ts
open PySem.W
noncomputable def ij:List Int->List Int->Bool
 | [],[]=>false
 | [],_::_=>true
 |_::_,[]=>false
 |x::xs,y::ys=>if x=y then ij xs ys else decide (x<y)
theorem qF:∀a,ij a a=false
 | []=>rfl
 |x::xs=>by unfold ij;rw[h9 rfl];exact qF xs
theorem ue:∀a b c,ij a b=true->ij b c=true->ij a c=true
 | [],[],_,h,_=>by cases h
 | [],_::_,[],_,h=>by cases h
 | [],_::_,_::_,_,_=>rfl
 |_::_,[],_,h,_=>by cases h
 |_::_,_::_,[],_,h=>by cases h
 |x::xs,y::ys,z::zs,h1,h2=>by
  unfold ij at h1 h2 ⊢;by_cases e1:x=y
  ·subst e1;rw[h9 rfl] at h1;by_cases e2:x=z
   ·subst e2;rw[h9 rfl] at h2 ⊢;exact ue xs ys zs h1 h2
   ·rw[hZ e2] at h2 ⊢;exact h2
  ·rw[hZ e1] at h1;have h1:=of_decide_eq_true h1;by_cases e2:y=z
   ·subst e2;rw[hZ e1];exact hJ h1
   ·rw[hZ e2] at h2;have h2:=of_decide_eq_true h2;rw[hZ (by lia)];exact hJ (by lia)
theorem zT:∀a b c,ij a c=true->ij a b=true\/ij b c=true
 | [],[],_::_,_=>.inr rfl
 | [],_::_,_::_,_=>.inl rfl
 | [],_,[],h=>by cases h
 |_::_,_,[],h=>by cases h
 |_::_,[],_::_,_=>.inr rfl
 |x::xs,y::ys,z::zs,h=>by
  unfold ij at h ⊢;by_cases e:x=z
  ·subst e;rw[h9 rfl] at h;by_cases e2:x=y
   ·subst e2;rw[h9 rfl,h9 rfl];exact zT xs ys zs h
   ·rw[hZ e2,hZ (λq=>e2 q.symm),decide_eq_true_eq,decide_eq_true_eq];lia
  ·rw[hZ e] at h;have h:=of_decide_eq_true h;by_cases e2:x=y
   ·subst e2;exact .inr (by rw[hZ e];exact hJ h)
   ·by_cases e3:y=z
    ·subst e3;exact .inl (by rw[hZ e];exact hJ h)
    ·rw[hZ e2,hZ e3,decide_eq_true_eq,decide_eq_true_eq];lia
theorem md:∀a b,ij a b=false->ij b a=false->a=b
 | [],[],_,_=>rfl
 | [],_::_,h,_=>by cases h
 |_::_,[],_,h=>by cases h
 |x::xs,y::ys,h1,h2=>by
  unfold ij at h1 h2;by_cases e:x=y
  ·subst e;rw[h9 rfl] at h1 h2;rw[md xs ys h1 h2]
  ·rw[hZ e] at h1;rw[hZ (λq=>e q.symm)] at h2;have h1:=of_decide_eq_false h1;have h2:=of_decide_eq_false h2;lia
noncomputable def My:agb:=⟨List Int,ij,qF,ue,zT,md⟩
noncomputable def xY (h:acP)(v:aak):List Int:=match v with
 | .ref a=>match h.get? a with
  |some o=>match o.data with
   | .seq aD _=>aD.toList.map numOf
   |_=>[]
  |none=>[]
 |_=>[]
def zU (h:acP)(v:aak):Prop:=∃a aD ns,v=.ref a/\h.IsTuple a aD/\ae_ aD.toList ns/\ns≠[]
theorem zV:∀{vs:List aak} {ns:List Int},ae_ vs ns->vs.map numOf=ns
 |_,_,.nil=>rfl
 |_,_,.cons n t r=>by rw[aag,zV r];rfl
theorem nJ {aD:Array aak}(t:h.IsTuple a aD)(i:ae_ aD.toList ns):xY h (.ref a)=ns:=by
 obtain⟨o,e,_,n,d⟩:=t;unfold xY;dsimp only;rw[e];dsimp only;rw[d];exact zV i
section
variable {w:abq}{A:aba}{b fin:Bool}{Q:Bool->aaD->Prop}
theorem zW:∀{xs ys:List aak} {ns ms:List Int} {i:Nat},ae_ xs ns->ae_ ys ms->fin=decide (ns.length<ms.length)->Q (ij ns ms) s->KatLex prog w A b fin Q (xs.zip ys) i s
 |_,_,_,_,i,.nil,.nil,hf,h=>by subst hf;exact kat_nil h
 |_,_,_,_,i,.nil,.cons m t r,hf,h=>by subst hf;exact kat_nil (by exact h)
 |_,_,_,_,i,.cons n t r,.nil,hf,h=>by subst hf;exact kat_nil (by exact h)
 |_,_,_,_,i,.cons n t r,.cons m u q,hf,h=>by
  refine kat_cons (aec ?_);unfold ij at h;by_cases e:n=m
  ·subst e;rw[h9 rfl] at h;rw[beq_self_eq_true];refine kat_yes (zW r q ?_ h);rw[hf];simp
  ·rw[hZ e] at h;rw[beq_eq_false_iff_ne.mpr e];refine kat_no ?_;cases hb:(b&&i==0) with
   |true=>exact oneLt_int h
   |false=>exact kat_one _ _ (lt_int h)
theorem Mz {hp:acP}(keep:∀v,zU hp v->zU s.heap v/\xY s.heap v=xY hp v):l6 (aa1 prog w) A E s My (λx=>xY hp x.1) (tuples' true) (λx=>zU hp x.1) where
 lt:=λx y st Q dx dy kd q=>by
  obtain⟨k1,k2⟩:=keep _ dx;obtain⟨k3,k4⟩:=keep _ dy;obtain⟨a,xs,ns,e1,t1,i1,_⟩:=k1;obtain⟨c,ys,ms,e2,t2,i2,_⟩:=k3;rw[←k2,←k4,e1,e2,nJ t1 i1,nJ t2 i2] at q;rw[lt'_eq];refine aaF (wpS_get ?_);rw[kd,e1,e2];obtain⟨o1,g1,_,n1,d1⟩:=t1;obtain⟨o2,g2,_,n2,d2⟩:=t2;refine aaF (wpS_lift (ac0 (kat_lt g1 d1 g2 d2 (zW i1 i2 ?_ ⟨rfl,?_⟩))))
  ·rw[←i1.length,←i2.length,aay,aay]
  ·exact aaO q
end
end Hc.Ts
namespace Hc.Dw
open PySem.W PySem.Calls
section
variable {w:abq}{A:aba}{d r I:aaM}
def Rt (hh:A.handled=none)(KZ:d≠I):Walks prog w A I [I,d] [I] ds.size (λi v=>∃e,ds[i]? = some e/\v=e.key) (λi h=>h.IsKeyIter I d i ds.size ep/\gI h d ds ep) where
 sub:=λb hb=>by simp at hb;simp[hb]
 frame:=λ_ _ _ st hk=>⟨st.1.at λo e=>hk I (by simp) o e,st.2.at λo e=>hk d (by simp) o e⟩
 item:=λi s Q E hi st hQ=>OS st.1 st.2 hi λh' t' sb=>hQ _ h' s.toks ⟨_,getElem?_pos ds i hi,rfl⟩ ⟨t',st.2.at λo e=>sb.extBut _ _ KZ e⟩ λb o hb e=>sb.extBut b o (λh=>hb (by simp[h])) e
 done:=λs Q E st hQ=>OT hh st.1 st.2 (aao _) λh' eb=>hQ h' s.toks λb o hb e=>eb b o (λh=>hb (by simp[h])) e
 self:=λ_ _ _ _ st hQ=>wpAny_pyIter_keyiter st.1 hQ
def BX (hh:A.handled=none)(KZ:d≠I):Walks prog w A I [I,d] [I] ds.size (λi v=>∃e,ds[i]? = some e/\v=e.val) (λi h=>h.IsValIter I d i ds.size ep/\gI h d ds ep) where
 sub:=λb hb=>by simp at hb;simp[hb]
 frame:=λ_ _ _ st hk=>⟨st.1.at λo e=>hk I (by simp) o e,st.2.at λo e=>hk d (by simp) o e⟩
 item:=λi s Q E hi st hQ=>OV st.1 st.2 hi λh' t' sb=>hQ _ h' s.toks ⟨_,getElem?_pos ds i hi,rfl⟩ ⟨t',st.2.at λo e=>sb.extBut _ _ KZ e⟩ λb o hb e=>sb.extBut b o (λh=>hb (by simp[h])) e
 done:=λs Q E st hQ=>OW hh st.1 st.2 (aao _) λh' eb=>hQ h' s.toks λb o hb e=>eb b o (λh=>hb (by simp[h])) e
 self:=λ_ _ _ _ st hQ=>wpAny_pyIter_valiter st.1 hQ
def Xy (lo:(d==abF)=false):KdlSrc prog w "dict" d d ds.size (λi v=>∃e,ds[i]? = some e/\v=e.key) (λh=>gI h d ds ep) where
 type:=λ_ hm=>hm.ty
 there:=λ_ hm=>⟨hm.lt,hm.lt⟩
 keep:=λ_ _ hm hk=>hm.at λo e=>hk d (.inl rfl) o e
 notList:=by decide
 notTuple:=by decide
 hint:=λ_ _ _ _ hm hq=>kdl_hint_dict hm.ty hq
 iter:=λ_ s hh hm=>⟨_,_,(λ_ _ hq=>OR lo hm hq),Rt hh (aaN hm.lt),⟨⟨_,aam _ rfl,rfl,rfl⟩,hm.at λo e=>aad _ e⟩⟩
theorem zX {T:String}{P:Nat->aak->Prop}{OK:acP->Prop}(K:KdlSrc prog w T r d n P OK)(hh:A.handled=none)(hok:OK s.heap)(hn:n<=aah){Q:List aak->aaD->Prop}(q:∀h' tk cD,(∀b o,s.heap.get? b=some o->h'.get? b=some o)->ItemsOf P cD n->Q cD.toList {s with heap:=h',toks:=tk}):aaW (aa1 prog w) A (collect (.ref r)) Q E s:=by
 have lt:=K.there _ hok;refine aaa (wpAny_runValue (acN PySem.F.entry_proto_collect ?_));refine aaa (abl (aae ⟨afk PySem.F.plain_list_iadd _,acN PySem.F.entry_list_iadd ?_⟩));rw[Around.under_plainId PySem.F.plain_list_iadd _];have hS:(s.heap.push _).get? _=some {cls:=.type "list",data:=.seq #[] 0}:=aam _ rfl;refine kdl_extend (R:=λx s'=>match x with
  | .ok (.ret v)=>aaW _ A (match v with
   | .ref a=>do match (←load a).data with
    | .seq xs _=>pure xs.toList
    |_=>unsupported _
   |_=>unsupported _) Q E s'
  | .ok _=>False
  | .error e=>E e s') K hh (K.keep _ _ hok λb _ o e=>aad _ e) _ (acX lt.1) (acX lt.2) _ 0 hS (λh' tk cD c' k' Py rB=>?_) hn
 refine aaa (wpAny_load Py ?_);exact aae (q h' tk cD (λb o e=>k' b o (aaN (aaA e)) (aad _ e)) rB)
end
end Hc.Dw
namespace L2
open Hc.Dw Hc.Ts
noncomputable def FA:V->Int
 | .int i=>i
 |_=>0
noncomputable def jc (H:Hp)(b:aaM):List Int:=match H b with
 |some (.tup xs)=>xs.map FA
 |_=>[]
theorem zY (ns:List Int):(ns.map V.int).map FA=ns:=by
 induction ns with
 |nil=>rfl
 |cons n r ih=>rw[aag,aag,ih];rfl
def Ru (K:aai)(H:Hp)(p:aaM)(bs:List aaM):Prop:=fX K H p (bs.map V.ref)\/gr K H p (bs.map V.ref)\/∃ep es,H p=some (DN p ep es)/\es.map (·.2.1)=bs
theorem pB:∀{bs:List aaM} {aD:List aak},aV (bs.map V.ref) aD->aD=bs.map Value.ref
 | [],_,.nil=>rfl
 |b::bs,_,.cons r t=>by rw[aag,pB t];cases r;rfl
theorem wy:∀(bs:List aaM),aV (bs.map V.ref) (bs.map Value.ref)
 | []=>.nil
 |b::bs=>.cons rfl (wy bs)
theorem FC {bs:List aaM}{out:List aak}(h:out.Perm (bs.map Value.ref)):∃p9:List aaM,out=p9.map Value.ref/\p9.Perm bs:=by
 let g:aak->aaM:=λv=>match v with
  | .ref a=>a
  |_=>0
 refine⟨out.map g,?_,?_⟩
 ·rw[aaq]
  conv=>lhs;rw[←aeh out]
  apply aaB;intro v hv;obtain⟨b,_,rfl⟩:=aas.mp (h.mem_iff.mp hv);rfl
 ·have:=h.map g;rw[aaq] at this;have e:bs.map (g∘Value.ref)=bs:=by
   conv=>rhs;rw[←aeh bs]
   apply aaB;intro b _;rfl
  rw[e] at this;exact this
theorem MA (I:aE X pins σ H s)(h:H b=some (.tup (ns.map V.int)))(n:ns≠[]):zU s.heap (.ref b)/\xY s.heap (.ref b)=jc H b:=by
 obtain⟨_,aD,rv,it,_⟩:=I.hok b _ h;have ia:=jt rv;refine⟨⟨b,aD.toArray,ns,rfl,it,by simpa using ia,n⟩,?_⟩;rw[nJ it (by simpa using ia)];unfold jc;rw[h];exact (zY ns).symm
theorem wz {v:aak}(t:zU h v)(k:∀b aD,h.IsTuple b aD->h'.IsTuple b aD):zU h' v/\xY h' v=xY h v:=by
 obtain⟨a,aD,ns,rfl,q,i,n⟩:=t;refine⟨⟨a,aD,ns,rfl,k a aD q,i,n⟩,?_⟩;rw[nJ q i,nJ (k a aD q) i]
theorem DQ {h:acP}:∀{vs:List aak},(∀v∈vs,zU h v)->∃fs,PySem.W.KatTups h vs fs/\fs.length=vs.length/\∀f∈fs,∃n t,f=.int n t
 | [],_=>⟨[],.nil,rfl,λf hf=>by cases hf⟩
 |v::vs,hv=>by
  obtain⟨fs,k1,k2,k3⟩:=DQ (vs:=vs) λu hu=>hv u (aan _ hu);obtain⟨a,aD,ns,rfl,⟨o,e,c,n,d⟩,i,ne⟩:=hv v aal;have:∃m t r,aD.toList=.int m t::r:=by
   generalize aD.toList=l at i;cases i with
   |nil=>exact absurd rfl ne
   |cons m t r=>exact⟨m,t,_,rfl⟩
  obtain⟨m,t,r,el⟩:=this;refine⟨.int m t::fs,.cons e c d (by rw[←aa5,el];rfl) k1,by rw[aat,aat,k2],λf hf=>?_⟩;rcases aaw.mp hf with rfl|hf
  ·exact⟨m,t,rfl⟩
  ·exact k3 f hf
noncomputable def UX:aak->aaM
 | .ref a=>a
 |_=>0
theorem BY {O:agb}{bs:List aaM}{Q:VK}(kf:aaM->O.α)(knd:aeG)(I:aE X pins σ H s)(hz:bs.length<=1000000)(hu:X.A.units+64<abI)(kk:∀(A:aba) (E:aak->aaD->Prop) (qP:List aaM) (s6:aaD) (Q6:aeG->aaD->Prop),qP.Perm bs->2<=qP.length->(∀b o,s.heap.get? b=some o->s6.heap.get? b=some o)->Q6 knd s6->aaW (aa1 X.prog X.w) A (keyKind' (qP.map Value.ref).toArray) Q6 E s6)(kc:2<=bs.length->∀(A:aba) (E:aak->aaD->Prop) (s6:aaD),A.units+30<abI->(∀b o,s.heap.get? b=some o->s6.heap.get? b=some o)->l6 (aa1 X.prog X.w) A E s6 O (λx=>kf (UX x.1)) knd (λx=>∃b∈bs,x.1=.ref b))(col:∀(Q:List aak->aaD->Prop) (E:aak->aaD->Prop),(∀h1 tk (qP:List aaM),qP.Perm bs->(∀b o,s.heap.get? b=some o->h1.get? b=some o)->Q (qP.map Value.ref) {s with heap:=h1,toks:=tk})->aaW (aa1 X.prog X.w) X.A.in1 (collect (.ref p)) Q E s)(q:∀(l:aaM) (p9:List aaM),H l=none->p9.Perm bs->p9.Pairwise (λx y=>O.blt (kf y) (kf x)=false)->Q (.ref l) (cT H l (.lst (p9.map V.ref)))) :
  aaW (aa1 X.prog X.w) X.A (call (.builtin "sorted") [.ref p]) (EP X pins σ Q) X.xe s:=by
 refine ad9 kind_sorted plain_sorted entry_sorted (args_sorted1 _) ?_;unfold Builtin.«sorted»;refine aaa (m:=checkCount "sorted" 1 1 _) (aae ?_);refine aaa (col _ _ λh1 tk qP Gh k1=>?_);have hz:qP.length<=1000000:=by rw[Gh.length_eq];exact hz
 have Lf:qP.length<=aah:=by rw[ack];lia
 have I1:aE X pins σ H {s with heap:=h1,toks:=tk}:=I.kept (t':=tk) k1;refine aaa (wpAny_newList ?_ (by rw[aab];exact Lf));have SF:(h1.push {cls:=.type "list",data:=.seq (qP.map Value.ref).toArray}).get? h1.objs.size=some (seqObj "list" (qP.map Value.ref).toArray 0):=aam _ rfl;have kt:∀(h6:acP),(∀b o,b≠h1.objs.size->(h1.push {cls:=.type "list",data:=.seq (qP.map Value.ref).toArray}).get? b=some o->h6.get? b=some o)->∀b o,s.heap.get? b=some o->h6.get? b=some o:=λh6 k6 b o e=>
  k6 b o (aaN (aaA (k1 b o e))) (aad _ (k1 b o e))
 refine aaa (abt (aa0 slot_list_sort ⟨_,SF,rfl⟩ entry_list_sort (Jd (s:={s with heap:=h1.push {cls:=.type "list",data:=.seq (qP.map Value.ref).toArray},toks:=tk}) (O:=O) (key:=λx=>kf (UX x.1)) (knd:=knd) (D:=λx=>∃b∈bs,x.1=.ref b) SF (by rw[aab];exact hz)
  (λh2 h6 Q6 k6 q6=>kk _ _ qP _ _ Gh (by rw[aab] at h2;exact h2) (kt h6 k6) q6) (λh2 h6 k6=>kc (by rw[aab] at h2;rw[←Gh.length_eq];exact h2) _ _ _ (by show X.A.units+1+1+30<abI;lia) (kt h6 k6)) (λv hv=>by
   obtain⟨b,hb,rfl⟩:=aas.mp hv;exact⟨b,Gh.mem_iff.mp hb,rfl⟩) λout hp hw=>⟨_,rfl,?_⟩) (args_list_sort _)))
 obtain⟨p9,e,Ld⟩:=FC hp;subst e;obtain⟨ee,he⟩:=sortedHeap_at (out:=(p9.map Value.ref).toArray) SF;have keep:∀b o,h1.get? b=some o->(sortedHeap (h1.push {cls:=.type "list",data:=.seq (qP.map Value.ref).toArray}) h1.objs.size (qP.map Value.ref) (p9.map Value.ref).toArray).get? b=some o:=λb o e=>by
  have hb:=aaA e;rw[sortedHeap_old (aaN hb) (by rw[ab0];exact acL hb)];exact aad _ e
 have Gp:(p9.map V.ref).length<=aah:=by rw[aab,Ld.length_eq];exact Lf
 refine aae ⟨_,rfl,.ref h1.objs.size,_,I1.laid (t':=tk) keep (aao _) (show cP X.prog X.w _ _ _ (.lst _) from ⟨Gp,p9.map Value.ref,ee,wy p9,by simpa using he⟩),rfl,q _ p9 (I1.hok.fresh (aao _)) (Ld.trans Gh) ?_⟩;exact adV.mp hw
theorem zZ {bs:List aaM}{Q:VK}(I:aE X pins σ H s)(hz:bs.length<=1000000)(hu:X.A.units+64<abI)(tu:∀b∈bs,∃ns:List Int,H b=some (.tup (ns.map V.int))/\ns≠[])(col:∀(Q:List aak->aaD->Prop) (E:aak->aaD->Prop),(∀h1 tk (qP:List aaM),qP.Perm bs->(∀b o,s.heap.get? b=some o->h1.get? b=some o)->Q (qP.map Value.ref) {s with heap:=h1,toks:=tk})->aaW (aa1 X.prog X.w) X.A.in1 (collect (.ref p)) Q E s)(q:∀(l:aaM) (p9:List aaM),H l=none->p9.Perm bs->p9.Pairwise (λx y=>ij (jc H y) (jc H x)=false)->Q (.ref l) (cT H l (.lst (p9.map V.ref)))) :
  aaW (aa1 X.prog X.w) X.A (call (.builtin "sorted") [.ref p]) (EP X pins σ Q) X.xe s:=by
 have tI:∀b∈bs,zU s.heap (.ref b)/\xY s.heap (.ref b)=jc H b:=λb hb=>by
  obtain⟨ns,e,ne⟩:=tu b hb;exact MA I e ne
 have kt:∀(h6:acP),(∀b o,s.heap.get? b=some o->h6.get? b=some o)->∀b aD,s.heap.IsTuple b aD->h6.IsTuple b aD:=λh6 k6 b aD ⟨o,e,z⟩=>⟨o,k6 b o e,z⟩;refine BY (O:=My) (jc H) (tuples' true) I hz hu (λA E qP s6 Q6 Gh h2 k6 q6=>?_) (λ_ A E s6 hA k6=>?_) col q
 ·obtain⟨fs,f1,f2,f3⟩:=DQ (h:=s6.heap) (vs:=qP.map Value.ref) λv hv=>by
   obtain⟨b,hb,rfl⟩:=aas.mp hv;exact (wz (tI b (Gh.mem_iff.mp hb)).1 (kt _ k6)).1
  exact PySem.W.kat_kind (T:=.type "int") f1 (by rw[f2,aab];lia) (λv hv=>by
   obtain⟨n,t,rfl⟩:=f3 v hv;exact PySem.W.Looks.of_pure rfl) (by decide) q6
 ·have c:=Mz (prog:=X.prog) (w:=X.w) (A:=A) (E:=E) (s:=s6) (hp:=s.heap) λv hv=>wz hv (kt _ k6);refine⟨λx y st Q dx dy kd qq=>?_⟩;obtain⟨b,hb,e1⟩:=dx;obtain⟨d,hd,e2⟩:=dy;refine c.lt x y st Q (by rw[e1];exact (tI b hb).1) (by rw[e2];exact (tI d hd).1) kd ?_;rw[e1,e2,(tI b hb).2,(tI d hd).2];rw[e1,e2] at qq;exact qq
theorem xZ (hc:X.calm=true)(hu:X.A.units+64<abI):d5 X (.builtin "sorted") (λxs H Q=>∃(p:aaM) (bs:List aaM),xs=[.ref p]/\Ru X.K H p bs/\bs.length<=1000000/\(∀b∈bs,∃ns:List Int,H b=some (.tup (ns.map V.int))/\ns≠[])/\
  ∀(l:aaM) (p9:List aaM),H l=none->p9.Perm bs->p9.Pairwise (λx y=>ij (jc H y) (jc H x)=false)->Q (.ref l) (cT H l (.lst (p9.map V.ref)))):=by
 intro pins s σ H xs us Q I r h;obtain⟨p,bs,rfl,r9,hz,tu,q⟩:=h;obtain⟨u,rfl,rx⟩:=gX r;cases rx;have Lf:bs.length<=aah:=by rw[ack];lia
 have col:∀(Q:List aak->aaD->Prop) (E:aak->aaD->Prop),(∀h1 tk (qP:List aaM),qP.Perm bs->(∀b o,s.heap.get? b=some o->h1.get? b=some o)->Q (qP.map Value.ref) {s with heap:=h1,toks:=tk})->aaW (aa1 X.prog X.w) X.A.in1 (collect (.ref p)) Q E s:=by
  intro Q E hq;rcases r9 with hs|hs|⟨ep,es,hs,rfl⟩
  ·obtain⟨aD,rv,pl,_⟩:=I.list hs;obtain⟨o,e,c,n,d⟩:=pl.isList;have e2:=pB rv;subst e2;exact afZ p (.inl rfl) e c d (λh1 k1=>by simpa using hq h1 s.toks bs (acd _) k1) (by rw[aax,aab];exact Lf)
  ·obtain⟨aD,rv,pl,_⟩:=I.tuple hs;obtain⟨o,e,c,n,d⟩:=pl;have e2:=pB rv;subst e2;exact afZ p (.inr rfl) e c d (λh1 k1=>by simpa using hq h1 s.toks bs (acd _) k1) (by rw[aax,aab];exact Lf)
  ·obtain⟨lo,ds,rd,n,at_⟩:=I.rawD hs;refine zX (A:=X.A.in1) (Xy lo) (I.ok.hd hc) rd (by rw[n];rw[aab] at Lf;exact Lf) λh1 tk cD k1 ia=>?_;have e:cD.toList=(es.map (·.2.1)).map Value.ref:=by
    apply aeW;intro i;rw[aa5,aaq,aar];by_cases hi:i<cD.size
    ·rw[getElem?_pos cD i hi];obtain⟨en,e1,e2⟩:=ia.2 i _ (getElem?_pos cD i hi);have VU:i<ds.size:=by rw[←ia.1];exact hi
     rw[getElem?_pos ds i VU] at e1;cases e1;obtain⟨x,m,ek,_⟩:=at_ i VU;rw[m,e2,ek];rfl
    ·rw[getElem?_neg cD i hi,ae8 (by rw[←n,←ia.1];lia)];rfl
   rw[e];exact hq h1 tk _ (acd _) k1
 exact zZ I hz hu tu col q
end L2
namespace Hc.Dw
open PySem.W
section
variable {w:abq}{K:Type}[DecidableEq K]{knd:HeapKind prog w K}{A:aba}
noncomputable def uf (ys:List (K×aaM×aak))(x:K×aaM×aak):Bool:=match atKey ys x.1 with
 |some p=>numOf x.2.2==numOf p.2
 |none=>false
def z9 (xs:List (K×aaM×aak)):Prop:=∀x∈xs,∃n t,x.2.2=.int n t
theorem BZ {nm:String}{xs ys:List (K×aaM×aak)}{Q:Bool->aaD->Prop}(la:(a==abF)=false)(lb:(b==abF)=false)(hu:knd.room A)(da:s.heap.DictOfH knd a xs)(db:s.heap.DictOfH knd b ys)(nx:z9 xs)(ny:z9 ys)(h:Q (xs.length==ys.length&&xs.all (uf ys)) s):aaW (aa1 prog w) A (Builtin.Dict.samePairs nm a b) Q E s:=by
 obtain⟨oa,es,ep,a1,_,a2,a3,a4,a5⟩:=da;obtain⟨ob,fs,eq,b1,_,b2,b3,b4,b5⟩:=db;have n1:es.size=xs.length:=by rw[←aay,a3,aab]
 have n2:fs.size=ys.length:=by rw[←aay,b3,aab]
 have qO:∀i (hi:i<es.size) (hx:i<xs.length),es[i]=entryOfKey knd xs[i]:=λi hi hx=>by
  have e:es.toList[i]? = some es[i]:=by rw[aa5];exact getElem?_pos es i hi
  rw[a3,aar,aac hx] at e;injection e with e
  exact e.symm
 have Yk:∀(j:Nat) y,ys[j]? = some y->fs[j]? = some _:=λj y e=>by
  rw[←aa5,b3,aar,e];rfl
 unfold Builtin.Dict.samePairs ac1;rw[hZ (by rw[la];exact aaz),hZ (by rw[lb];exact aaz)];refine aaa (aae (aaa (aae (aaa (abm a1 a2 (aaa (abm b1 b2 ?_)))))));by_cases c:es.size=fs.size
 ·rw[hZ (by rw[c];simp)];have h' :=by
   have:(xs.length==ys.length)=true:=by rw[←n1,←n2,c];exact beq_self_eq_true _
   rw[this] at h;exact h
  refine aaa (ab2 a1 a2 (aaa ?_));rw[adW];refine wpAny_forIn_list _ (λl q s'=>s'=s/\q=(none,())/\∃i,l=List.range' i (es.size-i)/\i<=es.size/\xs.all (uf ys)=(xs.drop i).all (uf ys)) _ ?_ ?_ _ _ ⟨rfl,rfl,0,by simp,acM _,rfl⟩
  ·rintro k l q s' ⟨rfl,rfl,i,hl,hi,ha⟩;have lt:i<es.size:=by
    rcases adJ i es.size with z|z
    ·exact z
    ·rw[Nat.sub_eq_zero_of_le z] at hl;simp at hl
   obtain⟨m,hm⟩:∃m,es.size-i=m+1:=⟨es.size-(i+1),by lia⟩;rw[hm] at hl;injection hl with e1 e2
   subst e1;have hx:k<xs.length:=by rw[←n1];exact lt
   refine aaa (abm a1 a2 ?_);rw[ab1 lt];rw[qO k lt hx];rw[abK hx,abT] at ha;obtain⟨nn,nt,en⟩:=nx xs[k] (aaH hx);refine aaa (abt (aaa (wpAny_dictFind_heap hu (a4 _ (aaH hx)) b1 b2 b3 b4 b5 (λno=>?_) λj p hj=>?_)))
   ·have e:uf ys xs[k]=false:=by unfold uf;rw[atKey_none_of_get no]
    rw[e] at ha;rw[ha] at h';refine aae ?_;exact aae (aae h')
   ·have Tc:=Yk j _ hj;obtain⟨mn,mt,em⟩:=ny _ (aaZ hj);have e:uf ys xs[k]=(nn==mn):=by
     unfold uf;rw[atKey_of_get b5 hj];dsimp only;rw[en,em];rfl
    rw[e] at ha;refine aaa (abm b1 b2 ?_);rw[Tc];change aaW _ _ (holding [p.2] (eqBool xs[k].2.2 p.2)) _ _ _;rw[en,em];refine abt (aec ?_);cases z:(nn==mn) with
    |false=>
     rw[z] at ha;rw[ha] at h';exact aae (aae h')
    |true=>
     rw[z] at ha;refine aaa (ab2 a1 a2 ?_);rw[hZ (by simp)];exact aae ⟨rfl,rfl,k+1,by rw[e2];congr 1;lia,lt,ha⟩
  ·rintro q s' ⟨rfl,rfl,i,hl,hi,ha⟩;have e:i=es.size:=by
    rcases adJ i es.size with z|z
    ·obtain⟨m,hm⟩:∃m,es.size-i=m+1:=⟨es.size-(i+1),by lia⟩;rw[hm] at hl;cases hl
    ·lia
   rw[e,n1,adq] at ha;rw[ha] at h';exact aae h'
 ·rw[h9 (by simpa using c)];have e:(xs.length==ys.length)=false:=by rw[←n1,←n2];simpa using c
  rw[e] at h;exact aaa (acU (aae h))
theorem ZG {xs ys:List (K×aaM×aak)}(la:(a==abF)=false)(lb:(b==abF)=false)(hu:knd.room A.in1)(hc:A.units<abI)(da:s.heap.DictOfH knd a xs)(db:s.heap.DictOfH knd b ys)(nx:z9 xs)(ny:z9 ys)(h:Q (.bool (xs.length==ys.length&&xs.all (uf ys))) s):aaW (aa1 prog w) A (abO .Eq (.ref a) (.ref b)) Q E s:=by
 refine wpAny_richCompare_same_room (op:=.Eq) da.typeIs db.typeIs PySem.F.slot_dict_eq (aa0 PySem.F.slot_dict_eq da.typeIs PySem.F.entry_dict_eq ?_ (PySem.F.args_dict_eq_2 _ _)) hc;refine aaa ?_;refine aae (aaa (adp db.typeIs PySem.F.sub_dict_dict ?_));refine aaa (aae (aaa (aae (aaa (BZ la lb hu da db nx ny (aae ⟨_,rfl,(?_:_/\_)⟩))))));refine⟨λx=>?_,by simpa using h⟩;cases x
end
end Hc.Dw
namespace Hc.Dw
def x_:typeLookup (.type "list") "keys"=pure none:=by kernel_rfl
section
variable {w:abq}{A:aba}{o:Obj}
def ya {g:Array GenState}{d:Drawn}{t:Nat}{os:OsState}{tk:Tok}{xs:Array aak}{Q:Fin->aaD->Prop}(hx:h.get? a=some {cls:=.type "list",data:=.seq xs n})(hh:A.handled=none)(hE:∀h' t' e,Heap.NewAttrErr h h' e (.ref a) "keys"->E (.ref e) ⟨h',g,d,t',os⟩):aaW (aa1 prog w) A (Builtin.«object.__getattribute__» ⟨[.ref a,.str "keys" tk],[]⟩) Q E ⟨h,g,d,t,os⟩:=by
 have f4:=x_
 repeat (any_goals (first|assumption|wp_step))
 exact wpAny_raiseAttrError hh hE
theorem Rv {xs:Array aak}{Q:Option aak->aaD->Prop}(hx:s.heap.get? a=some {cls:=.type "list",data:=.seq xs n})(hh:A.handled=none)(q:∀h' tk,(∀b o,s.heap.get? b=some o->h'.get? b=some o)->Q none {s with heap:=h',toks:=tk}):aaW (aa1 prog w) A (getAttr? (.ref a) "keys") Q E s:=by
 obtain⟨hp,g,d,tk,os⟩:=s;have hT:∀NG,(⟨hp,g,d,NG,os⟩:aaD).TypeIs (.ref a) "list":=λ_=>⟨_,hx,rfl⟩;have f1:=sub_AttributeError;have f3:=F.slot_list_getattribute.lookup;have f4:=F.slot_list_getattribute.bind (.ref a);have f5:=am_list_getattr_none
 repeat (any_goals (first|assumption|exact hT _|(fail)|wp_step))
 refine codeAny_call_builtin F.slot_list_getattribute.plain am_entry_list_getattribute (F.slot_list_getattribute.check _ _ _ _ _ _ _ _ (hT _) (F.args_list_getattribute_2 _ _) (ya hx hh λh' t' e ne=>?_));obtain⟨t2,u2,he⟩:=ne.there
 repeat (any_goals (first|assumption|wp_step))
 exact q _ _ ne.keeps
end
end Hc.Dw
namespace Hc.Dw
section
open PySem.W PyProof.Rows L2
def lF:entryFor table "dict.update.loop"=some Builtin.«dict.update.loop»:=entryFor_of_fast (by kernel_rfl)
def lG:plainId "dict.update.loop"=true:=by decide+kernel
theorem TK.keep' {k:List U}(x:TK h k b)(kp:∀c aD,h.IsTuple c aD->h'.IsTuple c aD):TK h' k b:=by
 obtain⟨l,aD,t,z⟩:=x;exact⟨l,aD,kp _ _ t,z.keep kp⟩
noncomputable def fT (xs:List (List U×aaM×aak))(aD:List (List U×aaM×aak)):List (List U×aaM×aak):=aD.foldl (λxs e=>storedH xs e.1 e.2.1 e.2.2) xs
theorem z_ {xs:List (List U×aaM×aak)}{k:List U}{v:aak}:(storedH xs k b v).length<=xs.length+1:=by
 unfold storedH;split
 ·rw[aab];lia
 ·rw[aaj];exact aao _
variable {w:abq}{A:aba}{d l:aaM}
def B0 (h:acP)(v:aak)(e:List U×aaM×aak):Prop:=∃T,v=.ref T/\h.IsTuple T #[.ref e.2.1,e.2.2]/\TK h e.1 e.2.1
theorem Je {c:aaM}{aD:Array aak}{o:Obj}(t:h.IsTuple c aD)(q:h.get? b=some o)(n:o.cls≠.type "tuple"):c≠b:=λe=>by
 subst e;obtain⟨o',q',z,_⟩:=t;rw[q] at q';cases q';exact n z
def nK {es:List (List U×aaM×aak)}(hi:i<es.length):fT [] (es.take (i+1))=storedH (fT [] (es.take i)) es[i].1 es[i].2.1 es[i].2.2:=by
 unfold fT;rw[aaL hi,adX];rfl
theorem MB {h0:acP}{vs:List aak}{es:List (List U×aaM×aak)}{R:Result->aaD->Prop}(hh:A.handled=none)(hu:A.units+40<abI)(hl:h0.IsList l vs.toArray)(hp:∀(i:Nat) v,vs[i]? = some v->∃e,es[i]? = some e/\B0 h0 v e)(n:vs.length=es.length)(hz:es.length<=1000000)
  (nt:∀b aD,h0.IsTuple b aD->b≠d/\b≠it) (nl:l≠d/\l≠it) (nd:d≠it) :
  ∀(m i:Nat) (s:aaD),es.length-i=m->i<=es.length->s.heap.IsListIter it l i->s.heap.DictOfH (i8 prog w) d (fT [] (es.take i))->(∀b o,b≠d->b≠it->h0.get? b=some o->s.heap.get? b=some o)->(fT [] (es.take i)).length<=i->
   (∀h' tk,h'.DictOfH (i8 prog w) d (fT [] es)->(∀b o,b≠d->b≠it->h0.get? b=some o->h'.get? b=some o)->R (.ok (.ret .none)) {s with heap:=h',toks:=tk})->
   codeAny (aa1 prog w) A (.builtin "dict.update.loop" ⟨[.ref d,.ref it,rawInt i,.none],[]⟩) R s:=by
 intro m
 induction m with
 |zero=>
  intro i s hm hi st dd kp hle hR;have e:i=es.length:=by lia
  subst e;rw[abh] at dd;have SQ:s.heap.IsList l vs.toArray:=by obtain⟨o,q,r⟩:=hl;exact⟨o,kp l o nl.1 nl.2 q,r⟩
  refine acN lF ?_;refine aaa (wpAny_pyNext_list_end hh st SQ (by simp;lia) λh' eb=>?_);refine aaa (aae (aae ?_));refine hR h' s.toks ?_ λb o b1 b2 z=>eb b o b2 (kp b o b1 b2 z);obtain⟨o,ds,ep,q1,q2,q3,q4,q5,q6⟩:=dd;obtain⟨oi,i1,i2,_⟩:=id st;refine⟨o,ds,ep,eb d o nd q1,q2,q3,q4,λx hx=>TK.keep' (q5 x hx) λc aD tc=>?_,q6⟩;have KZ:=Je tc i1 (by rw[i2];decide);obtain⟨oc,z1,z2⟩:=tc;exact⟨oc,eb c oc KZ z1,z2⟩
 |succ m ih=>
  intro i s hm hi st dd kp hle hR;have lt:i<es.length:=by lia
  have SQ:s.heap.IsList l vs.toArray:=by obtain⟨o,q,r⟩:=hl;exact⟨o,kp l o nl.1 nl.2 q,r⟩
  have hv:i<vs.length:=by lia
  obtain⟨e,he,T,ev,tT,tk⟩:=hp i vs[i] (aac hv);rw[aac lt] at he;injection he with he
  have kT:∀b aD,h0.IsTuple b aD->s.heap.IsTuple b aD:=λb aD h00=>by
   obtain⟨o,q,r⟩:=h00;obtain⟨b1,b2⟩:=nt b aD ⟨o,q,r⟩;exact⟨o,kp b o b1 b2 q,r⟩
  refine acN lF ?_;refine aaa (wpAny_pyNext_list_item st SQ (x:=vs[i]) (by simp[hv]) λh1 CB Yl=>?_);obtain⟨oi,i1,i2,_⟩:=id st;have k1:∀b aD,s.heap.IsTuple b aD->h1.IsTuple b aD:=λb aD tb=>by
   have KZ:=Je tb i1 (by rw[i2];decide);obtain⟨oc,z1,z2⟩:=tb;exact⟨oc,Yl.extBut b oc KZ z1,z2⟩
  have dd1:h1.DictOfH (i8 prog w) d (fT [] (es.take i)):=by
   obtain⟨o,ds,ep,q1,q2,q3,q4,q5,q6⟩:=dd;exact⟨o,ds,ep,Yl.extBut d o nd q1,q2,q3,q4,λx hx=>TK.keep' (q5 x hx) k1,q6⟩
  rw[ev];have tT1:=k1 _ _ (kT _ _ tT);obtain⟨oT,g1,g2,nT,g3⟩:=id tT1;refine aaa (abt (aaa (wpAny_tryCatch ?_)));refine aaa (ae3 ⟨_,g1,g2⟩ ?_);refine aaa (acu g1 g3 (aae ?_));refine abt (wpAny_dictSet_heap (by show A.units+1+20<abI;lia) (TK.keep' tk λb aD z=>k1 b aD (kT b aD z)) dd1 (λh2 Td Wx=>?_) (by rw[ack];lia));refine aae ⟨afk lG _,?_⟩;have e1:((i:Int)+1)=((i+1:Nat):Int):=by lia
  refine ih (i+1) _ (by lia) (by lia) ?_ ?_ (λb o b1 b2 z=>?_) ?_ λh' NG q1 q2=>hR h' NG q1 q2
  ·obtain⟨o1,s1,s2⟩:=CB;exact⟨o1,Wx.extBut it o1 nd.symm s1,s2⟩
  ·rw[nK lt,he];exact Td
  ·exact Wx.extBut b o b1 (Yl.extBut b o b2 (kp b o b1 b2 z))
  ·rw[nK lt];exact aaR z_ (by lia)
end
end Hc.Dw
namespace Hc.Dw
open PySem.W L2
section
variable {w:abq}{A:aba}{l:aaM}
theorem FD {vs:List aak}{n0:Nat}{es:List (List U×aaM×aak)}(hh:A.handled=none)(hu:A.units+64<abI)(hl:s.heap.get? l=some {cls:=.type "list",data:=.seq vs.toArray n0})(hp:∀(i:Nat) v,vs[i]? = some v->∃e,es[i]? = some e/\B0 s.heap v e)(n:vs.length=es.length)(hz:es.length<=1000000)(q:∀h' tk,h'.DictOfH (i8 prog w) s.heap.objs.size (fT [] es)->(∀b o,s.heap.get? b=some o->h'.get? b=some o)->Q (.ref s.heap.objs.size) {s with heap:=h',toks:=tk}) :
  aaW (aa1 prog w) A (call (.type "dict") [.ref l]) Q E s:=by
 refine callType_codes (Q₁:=λobj s₁=>obj=.ref _/\s₁={s with heap:=s.heap.push _}) F.kt_called_dict (F.kt_typeCall_dict_1 _) PySem.F.entry_dict_init (kt_code_dict_new _ ⟨rfl,rfl⟩) ?_;rintro obj s₁ ⟨rfl,rfl⟩;have od:(s.heap.push _).get? _=some {cls:=.type "dict",data:=.dict #[]}:=aam _ rfl;have ty:(⟨s.heap.push _,s.gens,s.drawn,s.toks,s.os⟩:aaD).TypeIs (.ref _) "dict":=⟨_,od,rfl⟩;have ol:(s.heap.push {cls:=.type "dict",data:=.dict #[]}).get? l=some _:=aad _ hl;refine⟨ty,PySem.F.args_dict_init_2 _ _,?_⟩;refine aaa ?_;refine aaa (adI ty ?_);refine aae ?_;change aaW _ _ (Builtin.Dict.updateFrom _ _ (.ref l) [] .none) _ _ _;refine aaa (ae3 ⟨_,ol,rfl⟩ ?_);refine aaa (Rv ol hh λh2 tk k2=>?_);refine aaa (acU (aaa ?_));have l2:h2.IsList l _:=⟨_,k2 _ _ ol,rfl,_,rfl⟩;refine adN l2 ?_;refine aae ⟨afk lG _,?_⟩;have ge:=aaA (k2 _ _ od);have k3:∀b o,s.heap.get? b=some o->(h2.push {cls:=.type "list_iterator",data:=.fields #[.ref l,.int 0 0]}).get? b=some o:=λb o z=>aad _ (k2 b o (aad _ z));refine MB (A:=A.in1) hh (by show A.units+1+40<abI;lia) ⟨_,hl,rfl,_,rfl⟩ hp n hz (λb aD t=>?_) ?_ ?_ es.length 0 _ (by lia) (acM _) ⟨_,aam _ rfl,rfl,rfl⟩ ?_ (λb o _ _ z=>k3 b o z) (aao _) λh' NG q1 q2=>?_
 ·obtain⟨o,z,_⟩:=t;have:=aaA z;exact⟨aaN this,aaN (Nat.lt_trans this ge)⟩
 ·have:=aaA hl;exact⟨aaN this,aaN (Nat.lt_trans this ge)⟩
 ·exact aaN ge
 ·exact⟨_,#[],0,aad _ (k2 _ _ od),⟨rfl,rfl,rfl⟩,rfl,rfl,(λx hx=>by cases hx),acv⟩
 ·refine⟨rfl,q h' NG q1 λb o z=>?_⟩;have:=aaA z;exact q2 b o (aaN this) (aaN (Nat.lt_trans this ge)) z
end
end Hc.Dw
namespace L2
open Hc.Dw Hc.Ts
noncomputable def ak (ns:List Int):U:=.tup (ns.map .int)
noncomputable def MC:U->Option (List Int)
 | .tup xs=>match dz xs with
  |some (n::ns)=>some (n::ns)
  |_=>none
 |_=>none
noncomputable def ug:List U->Option (List (List Int))
 | []=>some []
 |u::us=>match MC u,ug us with
  |some ns,some rC=>some (ns::rC)
  |_,_=>none
noncomputable def FE (x:List Int):List (List Int)->List (List Int)
 | []=>[x]
 |y::r=>if ij y x=true then y::FE x r else x::y::r
noncomputable def bG (l:List (List Int)):List (List Int):=l.foldr FE []
theorem pD (x:List Int):∀l,(FE x l).Perm (x::l)
 | []=>.refl _
 |y::r=>by
  unfold FE;split
  ·exact ((pD x r).cons y).trans (.swap x y r)
  ·exact .refl _
theorem ba:∀l,(bG l).Perm l
 | []=>.refl _
 |x::l=>(pD x _).trans ((ba l).cons x)
def UY (l:List (List Int)):Prop:=l.Pairwise λx y=>ij y x=false
theorem DR (x:List Int):∀{l},UY l->UY (FE x l)
 | [],_=>aeE _ _
 |y::r,h=>by
  obtain⟨h1,h2⟩:=ace.mp h;unfold FE;split
  ·rename_i c;refine ace.mpr ⟨λz hz=>?_,DR x h2⟩;rcases aaw.mp ((pD x r).mem_iff.mp hz) with rfl|hz
   ·exact KeyOrd.klt_asymm (O:=My) c
   ·exact h1 z hz
  ·rename_i c;have c:ij y x=false:=by simpa using c
   refine ace.mpr ⟨λz hz=>?_,h⟩;rcases aaw.mp hz with rfl|hz
   ·exact c
   ·exact aa8 (O:=My) (a:=x) (b:=y) (c:=z) c (h1 z hz)
theorem nM:∀l,UY (bG l)
 | []=>List.Pairwise.nil
 |x::l=>DR x (nM l)
theorem yb:∀{l m:List (List Int)},l.Perm m->UY l->UY m->l=m
 | [],m,p,_,_=>(List.nil_perm.mp p).symm
 |x::l,[],p,_,_=>absurd p.length_eq (by simp)
 |x::l,y::m,p,h1,h2=>by
  obtain⟨a1,a2⟩:=ace.mp h1;obtain⟨b1,b2⟩:=ace.mp h2;have e:x=y:=by
   have hx:x∈y::m:=p.mem_iff.mp aal;have hy:y∈x::l:=p.mem_iff.mpr aal;rcases aaw.mp hx with rfl|hx
   ·rfl
   ·rcases aaw.mp hy with rfl|hy
    ·rfl
    ·exact md x y (b1 x hx) (a1 y hy)
  subst e;rw[yb (p.cons_inv) a2 b2]
theorem MD (h:MC u=some ns):u=ak ns/\ns≠[]:=by
 unfold MC at h;split at h
 ·split at h
  ·rename_i xs n r e;cases h;rw[gH e];exact⟨rfl,by simp⟩
  ·cases h
 ·cases h
theorem nN:∀{us:List U} {rC:List (List Int)},ug us=some rC->us=rC.map ak/\∀ns∈rC,ns≠[]
 | [],_,h=>by cases h;exact⟨rfl,λns hn=>by cases hn⟩
 |u::us,rC,h=>by
  unfold ug at h;split at h
  ·rename_i ns r e1 e2;cases h;obtain⟨e3,n3⟩:=MD e1;obtain⟨e4,n4⟩:=nN e2;refine⟨by rw[aag,←e3,←e4],λz hz=>?_⟩;rcases aaw.mp hz with rfl|hz
   ·exact n3
   ·exact n4 z hz
  ·cases h
theorem Rx (h:Rp K H A (ak ns) v):∃b,v=.ref b/\H b=some (.tup (ns.map V.int))/\ns.length<=aah:=by
 unfold ak Rp at h;obtain⟨b,ys,e,q,l,r⟩:=h;rw[r.toI] at q;exact⟨b,e,q,by simpa using l⟩
def Ry (q:H b=some (.tup (ns.map V.int)))(l:ns.length<=aah):Rp K H A (ak ns) (.ref b):=by
 unfold ak Rp;exact⟨b,_,rfl,q,by simpa using l,nq ns⟩
def DV (q:H b=some (.tup (ns.map V.int))):jc H b=ns:=by unfold jc;rw[q];exact zY ns
theorem nO:∀{rC:List (List Int)} {xs:List V},aS K H A (rC.map ak) xs->∃bs:List aaM,xs=bs.map V.ref/\bs.map (jc H)=rC/\∀b∈bs,H b=some (.tup ((jc H b).map V.int))/\(jc H b).length<=aah
 | [],xs,h=>by rw[acA] at h;unfold aS at h;subst h;exact⟨[],rfl,rfl,λb hb=>by cases hb⟩
 |ns::rC,xs,h=>by
  rw[aag] at h;unfold aS at h;obtain⟨x,r,rfl,h1,h2⟩:=h;obtain⟨b,rfl,q,l⟩:=Rx h1;obtain⟨bs,rfl,e,z⟩:=nO h2;refine⟨b::bs,rfl,by rw[aag,e,DV q],λc hc=>?_⟩;rcases aaw.mp hc with rfl|hc
  ·rw[DV q];exact⟨q,l⟩
  ·exact z c hc
theorem Jf {bs:List aaM}(h:∀b∈bs,H b=some (.tup ((jc H b).map V.int))/\(jc H b).length<=aah):aS K H A ((bs.map (jc H)).map ak) (bs.map V.ref):=by
 induction bs with
 |nil=>exact aS.nil
 |cons b bs ih=>exact aS.cons (Ry (h b aal).1 (h b aal).2) (ih λc hc=>h c (aan _ hc))
noncomputable def jI (us:List U):R U:=match ug us with
 |some rC=>if rC.length<=1000000 then .ok (.lst ((bG rC).map ak)) else .stk
 |none=>.stk
noncomputable def B1:List U->R U:=λus=>match us with
 | [.lst xs]=>jI xs
 | [.tup xs]=>jI xs
 | [.dct ks _]=>if mQ ks=true then jI ks else .stk
 |_=>.stk
def yc (K:aai):List V->Hp->VK->Prop:=λxs H Q=>∃(p:aaM) (bs:List aaM),xs=[.ref p]/\Ru K H p bs/\bs.length<=1000000/\(∀b∈bs,∃ns:List Int,H b=some (.tup (ns.map V.int))/\ns≠[])/\
  ∀(l:aaM) (p9:List aaM),H l=none->p9.Perm bs->p9.Pairwise (λx y=>ij (jc H y) (jc H x)=false)->Q (.ref l) (cT H l (.lst (p9.map V.ref)))
theorem FF:lW K (yc K) .O B1:=λA H vs us z Q h mu e q=>by
 have fin:∀(xs:List U) (p:aaM) (bs:List aaM),jI xs=.ok z->aS K H A xs (bs.map V.ref)->Ru K H p bs->yc K [.ref p] H Q:=by
  intro xs p bs e r r9;unfold jI at e;split at e
  ·rename_i rC e1;split at e
   ·rename_i hz;cases e;obtain⟨e2,ne⟩:=nN e1;subst e2;obtain⟨qP,e3,e4,e5⟩:=nO r;have e6:bs=qP:=by
     have:Function.Injective V.ref:=λa b h=>by cases h;rfl
     exact (List.map_inj_right λ_ _ h=>by cases h;rfl).mp e3
    subst e6;have n1:bs.length=rC.length:=by rw[←e4,aab]
    refine⟨p,bs,rfl,r9,by lia,λb hb=>⟨_,(e5 b hb).1,ne _ (by rw[←e4];exact aaI hb)⟩,λl p9 hn hp hw=>?_⟩;have e7:p9.map (jc H)=bG rC:=yb ((hp.map (jc H)).trans (by rw[e4];exact (ba rC).symm)) (adV.mpr hw) (nM rC);refine q _ _ (cF hn _) ⟨l,rfl,hn,?_⟩;rw[←e7];refine cM mu (Jf λb hb=>e5 b (hp.mem_iff.mp hb)) hn ?_;have:aah=16777216:=rfl;rw[aab,aab,hp.length_eq];lia
   ·cases e
  ·cases e
 unfold B1 at e;split at e
 ·obtain⟨v,rfl,p⟩:=h.one;unfold Pk at p;obtain⟨a,ys,rfl,h1,l1,r1⟩:=p;have e':=e;unfold jI at e';split at e'
  ·rename_i rC e1;have r2:=r1;rw[(nN e1).1] at r2;obtain⟨bs,rfl,_⟩:=nO r2;exact fin _ a bs e r1 (.inl (fX.of h1))
  ·cases e'
 ·obtain⟨v,rfl,p⟩:=h.one;unfold Pk at p;obtain⟨a,ys,rfl,h1,l1,r1⟩:=p;have e':=e;unfold jI at e';split at e'
  ·rename_i rC e1;have r2:=r1;rw[(nN e1).1] at r2;obtain⟨bs,rfl,_⟩:=nO r2;exact fin _ a bs e r1 (.inr (.inl (gr.of h1)))
  ·cases e'
 ·rename_i ks ws;split at e
  ·rename_i c;obtain⟨v,rfl,p⟩:=h.one;unfold Pk at p;obtain⟨a,ys,rfl,h1,l1,r1⟩:=p;obtain⟨es,ep,q1,kt,e1,e2⟩:=pq c h1;refine fin ks a (es.map (·.2.1)) e ?_ (.inr (.inr ⟨ep,es,q1,rfl⟩));subst e1;clear e fin e2 r1 h1 c q1 h
   induction es with
   |nil=>exact aS.nil
   |cons x es ih=>exact aS.cons (OX (kt x aal)) (ih λy hy=>kt y (aan _ hy))
  ·cases e
 ·cases e
def Jg (K:aai):List V->Hp->VK->Prop:=λxs H Q=>∃(p:aaM) (ns:List Int),xs=[.ref p]/\(fX K H p (ns.map V.int)\/gr K H p (ns.map V.int))/\ns.length<64/\
  ∀(l:aaM) (yM:List Int),H l=none->yM.Perm ns->yM.Pairwise (·<=·)->Q (.ref l) (cT H l (.lst (yM.map V.int)))
noncomputable def j3:List U->R U:=λus=>match Bw us with
 | .ok z=>.ok z
 |_=>B1 us
theorem ky:lW K (λxs H Q=>Jg K xs H Q\/yc K xs H Q) .O j3:=λA H vs us z Q h mu e q=>by
 unfold j3 at e;split at e
 ·rename_i z' e1;cases e;exact .inl (E8 A H vs us _ Q h mu e1 q)
 ·exact .inr (FF A H vs us z Q h mu e q)
theorem jd (hc:X.calm=true)(hu:X.A.units+64<abI):d5 X (.builtin "sorted") (λxs H Q=>Jg X.K xs H Q\/yc X.K xs H Q):=by
 intro pins s σ H xs us Q I r h;rcases h with h|h
 ·exact xl pins s σ H xs us Q I r h
 ·exact xZ hc hu pins s σ H xs us Q I r h
end L2
namespace L2
open Hc.Dw Hc.Ts
def O4:R2:=λx y H Q=>∃(p:aaM) (xs:List V) (n:Int),x=.ref p/\y=.int n/\H p=some (.lst xs)/\0<=n/\n<=100000/\xs≠[]/\xs.length*n.toNat<=100000/\∀l,H l=none->Q (.ref l) (cT H l (.lst (aa9 n.toNat xs).flatten))
theorem DX:j6 X (adO .Mult) O4:=by
 intro pins s σ H x y v u Q I rx ry h;obtain⟨p,xs,n,rfl,rfl,hp,h0,h1,KZ,hs,q⟩:=h;obtain rfl:v=Value.ref p:=rx;obtain⟨tk,rfl⟩:∃t,u=.int n t:=ry;obtain⟨_,aD,n0,rv,hl,ho⟩:=I.lstM hp;have he:aD.toArray.isEmpty=false:=by cases aD with
  |nil=>cases xs with
   |nil=>exact absurd rfl KZ
   |cons=>simp at hl
  |cons=>simp
 have sl:aah=16777216:=rfl;refine wpAny_binaryOp_repeat_ref (by decide) ⟨_,ho,rfl⟩ (λs'=>typeIs_int s' n tk) noFill_list_mul PySem.F.fills_int_mul PySem.F.slot_int_rmul repeat_list PySem.F.slot_int_index.lookup
  (aeV PySem.F.slot_int_rmul (typeIs_int s n tk) PySem.F.entry_int_rmul (PySem.F.args_int_rmul_2 _ _) (int___rmul___int_list n tk p _ n0)
   ⟨ho,rfl,⟨_,ho,rfl⟩,aeV PySem.F.slot_list_mul ⟨_,ho,rfl⟩ PySem.F.entry_list_mul (PySem.F.args_list_mul_2 _ _)
    (AutoListH.list___mul___list_int_3 p _ n0 n tk ?c0 ?c1 ?c2) ⟨ho,?_⟩⟩)
 case c0=>unfold Builtin.List.listFitsIndex;simp;lia
 case c1=>rw[aax,←hl];lia
 case c2=>rw[aax,←hl,su (by rw[sl];lia)];exact aaz
 rw[he,listMul_foldl];have el:(#[]:Array aak).toList=[]:=rfl;have z2:(aa9 n.toNat xs).flatten.length<=aah:=by rw[C6,sl];lia
 exact⟨.ref _,_,I.laid (o:=.lst _) (λ_ _ e=>aad _ e) (aao _) ⟨z2,_,0,zD rv n.toNat,by
  have:=aam s.heap (o:={cls:=Value.type "list",data:=Data.seq (aa9 n.toNat aD.toArray.toList).flatten.toArray}) rfl;simpa using this⟩,rfl,q _ (I.hok.fresh (aao _))⟩
noncomputable def Aa:U->U->R U:=λu w=>match u,w with
 | .lst us,.int n=>if 0<=n/\n<=100000/\us.length*n.toNat<=100000/\us.isEmpty=false then .ok (.lst (aa9 n.toNat us).flatten) else .stk
 |_,_=>.stk
theorem Ab:fz K O4 .O Aa:=λA H x y u w z Q hx hy mu e q=>by
 unfold Aa at e;split at e
 ·rename_i us n;split at e
  ·rename_i c;cases e;obtain⟨a,xs,rfl,h1,l1,r1⟩:=hx;subst hy;have hl:=r1.length;refine⟨a,xs,n,rfl,rfl,h1,c.1,c.2.1,λz=>?_,by rw[←hl];exact c.2.2.1,λl hn=>?_⟩
   ·have:=abJ (by rw[hl,z];rfl);have c4:=c.2.2.2;rw[this] at c4;cases c4
   ·refine q _ _ (cF hn _) ⟨l,rfl,hn,cM mu (C7 r1 _) hn ?_⟩;rw[C6];have:aah=16777216:=rfl;lia
  ·cases e
 ·cases e
def VW (l a:aaM)(h:acP):Prop:=h.IsValuesView l a
section
variable {e:aca}{tl:TE}{bW cpos p1:Pos}{b1:Bool}{m1:Md}{g1:Ev->R (U×Ev)}
def UZ (tl:TE):TE:=λσ H Q=>tl σ H λx H1=>∃a ep es,x=.ref a/\H1 a=some (DN a ep es)/\∀l,H1 l=none->Q (.ref l) (cT H1 l (.ext (VW l a)))
theorem pE (hl:PE X e tl)(m:M0 X e "values" bW cpos):PE X (.Call (.Attribute e "values" bW) [] [] cpos) (UZ tl):=by
 intro pins s σ H Q I h;refine adR m.base m.few m.line acJ ac_ af2 (dE (hl pins s σ H _ I h) λv s1 ⟨x,H1,I1,r1,a,ep,es,ex,hq,q⟩=>?_);subst ex;cases r1;obtain⟨t1,t2⟩:=BM I1 hq;refine⟨t1,t2,?_⟩;obtain⟨lo,ds,rd,n,_⟩:=I1.rawD hq;refine ach rfl (adZ ?_);refine aa0 ac_ t1 afR (OU lo rd λh1 vw k1=>?_) (afE _);exact⟨.ref _,_,I1.laid (o:=.ext _) k1 (aao _) ⟨vw,by obtain⟨o,z,_⟩:=vw;exact⟨o,z⟩,λg1 g2 x kp=>by obtain⟨o,z,r⟩:=x;exact⟨o,kp _ z,r⟩⟩,rfl,q _ (I1.hok.fresh (aao _))⟩
noncomputable def mf (ns:List Int):Bool:=decide (ns.length<=1000000)&&ns.all λn=>decide (0<=n/\n<=1000000000)
theorem kz (ns:List Int):∀j,j<=ns.length->preSum (λi=>ns.getD i 0) j=(ns.take j).sum
 |0,_=>rfl
 |j+1,h=>by
  unfold preSum;rw[kz ns j (by lia),aaL (by lia),List.sum_append];simp[aac (show j<ns.length by lia)]
theorem wA:∀{ns:List Int},(ns.all λn=>decide (0<=n/\n<=1000000000))=true->0<=ns.sum/\ns.sum<=ns.length*1000000000
 | [],_=>by simp
 |n::ns,h=>by
  rw[abT,aau] at h;obtain⟨a,b⟩:=wA h.2;have:=of_decide_eq_true h.1;rw[aaV,aat];constructor
  ·lia
  ·lia
def U0:List V->Hp->VK->Prop:=λxs H Q=>∃l a ep es ns,xs=[.ref l]/\H l=some (.ext (VW l a))/\H a=some (DN a ep es)/\es.map (·.2.2)=ns.map V.int/\mf ns=true/\Q (.int ns.sum) H
theorem FG (hc:X.calm=true):d5 X (.builtin "sum") U0:=by
 intro pins s σ H xs us Q I r h;obtain⟨l,a,ep,es,ns,rfl,hl,ha,ev,sm,q⟩:=h;obtain⟨u,rfl,rx⟩:=gX r;cases rx;obtain⟨vw,_,_⟩:=I.hok l _ hl;obtain⟨lo,ds,rd,n,at_⟩:=I.rawD ha;unfold mf at sm;rw[aau] at sm;have s1:=of_decide_eq_true sm.1;have nn:=by have:=congrArg afs ev;simpa using this
 have lt:=rd.lt;refine call_sum_walk (Dv vw rd ⟨s.heap.objs.size,[s.heap.objs.size,a],[s.heap.objs.size],ds.size,_,_,λi=>ns.getD i 0,rfl,BX (I.ok.hd hc) (aaN lt),⟨⟨_,aam _ rfl,rfl,rfl⟩,rd.at λo z=>aad _ z⟩,?_,?_,?_,λh' tk t' k=>?_⟩)
 ·intro b hb;rw[ab0];simp only[aaw,ads,or_false] at hb;rcases hb with rfl|rfl
  ·exact aed _
  ·exact acL lt
 ·rintro i v ⟨e,e1,rfl⟩;have hi:i<ds.size:=by
   rcases adJ i ds.size with z|z
   ·exact z
   ·rw[acR z] at e1;cases e1
  rw[getElem?_pos ds i hi] at e1;cases e1;obtain⟨x,m,_,rv⟩:=at_ i hi;have e2:(es.map (·.2.2))[i]? = some x.2.2:=by rw[aar,m];rfl
  rw[ev,aar] at e2;have PJ:i<ns.length:=by lia
  rw[aac PJ] at e2;injection e2 with e2
  rw[←e2] at rv;obtain⟨t,et⟩:=rv;exact⟨t,by rw[et];simp[aac PJ]⟩
 ·intro j hj;have Tc:j<ns.length:=by lia
  have al:=sm.2;refine⟨?_,?_⟩
  ·have:=aaJ.mp al ns[j] (aaH Tc);have:=of_decide_eq_true this;unfold InLong;simp only[List.getD,aac Tc,Option.getD_some];lia
  ·rw[kz ns (j+1) (by lia)];have al2:((ns.take (j+1)).all _)=true:=aaJ.mpr λx hx=>aaJ.mp al x (abf hx);obtain⟨p1,p2⟩:=wA al2;have:(ns.take (j+1)).length<=1000000:=by rw[aaE];lia
   unfold InLong;lia
 ·have e:preSum (λi=>ns.getD i 0) ds.size=ns.sum:=by rw[kz ns ds.size (by lia),n,nn,abh]
  rw[e];refine⟨.int ns.sum,H,I.kept λb o z=>?_,⟨t',rfl⟩,q⟩;refine k b o (λhb=>?_) (aad _ z);have:=by simpa using hb
  exact absurd (aaA z) (by rw[this];exact acr _)
noncomputable def DY (g:Ev->R (U×Ev)):Ev->R (U×Ev):=λρ=>(g ρ).bind λx=>match x.1 with
 | .dct ks us=>if mQ ks=true then (match dz us with
  |some ns=>if mf ns=true then .ok (.int ns.sum,x.2) else .stk
  |none=>.stk) else .stk
 |_=>.stk
theorem DZ (hc:X.calm=true)(h:DE X G e b1 m1 g1)(hm:X.mg "sum"=none)(hg:Gl X "sum":=by rfl)(m:M0 X e "values" bW cpos:=by exact⟨rfl,rfl,rfl,rfl⟩)
  (Gg:aaC [.Call (.Attribute e "values" bW) [] [] cpos] X.env=(false,adB (.Call (.Attribute e "values" bW) [] [] cpos) X.env)::aaC [] X.env:=by rfl) (u7:(acq pos (aaC [] X.env)).any (·.1)=false:=by rfl) :
  DE X G (.Call (.Name "sum" p1) [.Call (.Attribute e "values" bW) [] [] cpos] [] pos) b1 .S (DY g1):=⟨(j_ (FG hc) hg hm Qz (fQ (pE h.un m) jr Gg) (by decide) (by decide) Gg u7).to λσ H Q h00=>by
 obtain⟨Z,A,ρ,q,f⟩:=h00;refine⟨Z,A,ρ,q,?_⟩;unfold DY at f;cases e1:g1 ρ with
 |stk=>rw[e1] at f;exact f.elim
 |exc=>rw[e1] at f;exact f.elim
 |ok y=>
  obtain⟨u,ρ1⟩:=y;rw[e1] at f;intro v H1 q1 x1 s1 vm;cases u with
  |dct ks us=>
   dsimp only[L2.R.bind] at f;by_cases c:mQ ks=true
   ·rw[h9 c] at f;cases e2:dz us with
    |none=>rw[e2] at f;exact f.elim
    |some ns=>
     rw[e2] at f;dsimp only at f;by_cases c2:mf ns=true
     ·rw[h9 c2] at f;have pk:=vm.pk;obtain⟨a,xs,rfl,d,l,r⟩:=pk;obtain⟨es,ep,hq,kt,e3,e4⟩:=pq c d;rw[gH e2] at r;have r2:=r.toI;rw[e4] at r2;refine⟨a,ep,es,rfl,hq,λl hn=>?_⟩;have ne:a≠l:=λz=>by rw[←z,hq] at hn;cases hn
      have sm:=cF hn (.ext (VW l a));exact⟨l,a,ep,es,ns,rfl,bj,by rw[aI ne];exact hq,r2,c2,f _ _ (q1.same sm) (x1.trans (eQ.same sm)) (oV s1 sm) (show Rp X.K _ A _ _ from cU)⟩
     ·rw[hZ c2] at f;exact f.elim
   ·rw[hZ c] at f;exact f.elim
  |_=>exact f.elim⟩
end
end L2
namespace L2
open Hc.Dw Hc.Ts
noncomputable def nP:Int->List Int->Int
 |m,[]=>m
 |m,n::ns=>nP (if m<n then n else m) ns
theorem Ac (ns:List Int)(n0:Int):∀j,j<=ns.length->(n0::ns).getD (argBest (λi j=>decide ((n0::ns).getD i 0>(n0::ns).getD j 0)) j) 0=nP n0 (ns.take j)
 |0,_=>by simp[argBest,nP]
 |j+1,h=>by
  have ih:=Ac ns n0 j (by lia);have hj:j<ns.length:=by lia
  have app:∀(l:List Int) (m x:Int),nP m (l++[x])=if nP m l<x then x else nP m l:=by
   intro l
   induction l with
   |nil=>intro m x;rfl
   |cons y l ih=>intro m x;exact ih _ x
  rw[aaL hj,app,←ih];have g:(n0::ns).getD (j+1) 0=ns[j]:=by simp[aac hj]
  rw[argBest];by_cases c:(n0::ns).getD (argBest (λi j=>decide ((n0::ns).getD i 0>(n0::ns).getD j 0)) j) 0<ns[j]
  ·rw[h9 c,h9 (by rw[g];exact hJ c),g]
  ·rw[hZ c,hZ (by rw[g,decide_eq_true_eq];exact c)]
end L2
namespace L2
def U1 (K:aai)(f:Bool->Bool):R2:=λx y H Q=>∃p xs ds dx,y=.ref p/\(fX K H p xs\/gr K H p xs)/\iG K H dx x/\fD K H ds xs/\(∀d∈ds,eB d<=30)/\Q (.bl (f (ds.any λd=>iQ d dx))) H
open Classical in
noncomputable def B2 (aD:List aak)(ds:List D)(dx:D)(u:aak):Bool:=decide (∃(i:Nat) (d:D),aD[i]? = some u/\ds[i]? = some d/\iQ d dx=true)
open Classical in
def nQ {ds:List D}{dx:D}{u:aak}:B2 aD ds dx u=true↔∃(i:Nat) (d:D),aD[i]? = some u/\ds[i]? = some d/\iQ d dx=true:=by
 unfold B2;exact decide_eq_true_iff
theorem D0 {ds:List D}{dx:D}(hl:aD.length=ds.length):aD.any (B2 aD ds dx)=ds.any λd=>iQ d dx:=by
 rw[abu,acV,acV];constructor
 ·rintro⟨u,_,h⟩;obtain⟨i,d,_,h2,h3⟩:=nQ.mp h;exact⟨d,aaZ h2,h3⟩
 ·rintro⟨d,hd,h⟩;obtain⟨i,hi,e⟩:=abM.mp hd;have PJ:i<aD.length:=by lia
  exact⟨aD[i],aaH PJ,nQ.mpr ⟨i,d,aac PJ,by rw[aac hi,e],h⟩⟩
theorem uh (I:aE X pins σ H s){A:aba}(hA:A.units+30<abI){x:V}{v:aak}{dx:D}(rx:aL x v)(hx:iG X.K H dx x){ds:List D}(rv:aV xs aD)(hs:fD X.K H ds xs)(hd:∀d∈ds,eB d<=30) :
  ∀u∈aD,adu A s u v (B2 aD ds dx u):=λu hu=>by
 have l1:=rv.length;have l2:=hs.length;have at_:∀(i:Nat) (d:D),aD[i]? = some u->ds[i]? = some d->adu A s u v _:=λi d h1 h2=>by
  have hi:=(aap.mp h1).1;have h3:xs[i]? = some (xs[i]'(by lia)):=aac _;obtain⟨u',g1,g2⟩:=rv.get h3;rw[h1] at g1;cases g1;exact Bm I 30 d dx _ x u v A (hd d (aaZ h2)) hA (hs.get h2 h3) hx g2 rx
 by_cases c:∃(i:Nat) (d:D),aD[i]? = some u/\ds[i]? = some d/\iQ d dx=true
 ·obtain⟨i,d,h1,h2,h3⟩:=c;have e:=nQ.mpr ⟨i,d,h1,h2,h3⟩;rw[e,←h3];exact at_ i d h1 h2
 ·have e:=adQ.mpr λz=>c (nQ.mp z);obtain⟨i,hi,eu⟩:=abM.mp hu;have h1:aD[i]? = some u:=by rw[aac hi,eu]
  have h2:ds[i]? = some (ds[i]'(by lia)):=aac _;have e2:iQ (ds[i]'(by lia)) dx=false:=by
   cases z:iQ _ dx with
   |false=>rfl
   |true=>exact absurd ⟨i,_,h1,h2,z⟩ c
  rw[e,←e2];exact at_ i _ h1 h2
theorem wB (hu:X.A.units+64<abI):j6 X (abO .NotIn) (U1 X.K not):=by
 intro pins s σ H x y v u Q I rx ry h;obtain⟨p,xs,ds,dx,rfl,hq,hx,hs,hd,q⟩:=h;cases ry;rcases hq with hq|hq
 ·obtain⟨aD,r,pl,hz⟩:=I.list hq;refine SeqAt.notIn_listAt _ pl.isList (λw hw=>uh I (by show X.A.units+1+30<abI;lia) rx hx r hs hd w (by simpa using hw)) ⟨.bl _,H,I,rfl,?_⟩;rw[show aD.toArray.any _=aD.any (B2 aD ds dx) by simp,D0 (by rw[←r.length,←hs.length])];exact q
 ·obtain⟨aD,r,pl,hz⟩:=I.tuple hq;refine SeqAt.notIn_tupleAt _ pl (λw hw=>uh I (by show X.A.units+1+30<abI;lia) rx hx r hs hd w (by simpa using hw)) ⟨.bl _,H,I,rfl,?_⟩;rw[show aD.toArray.any _=aD.any (B2 aD ds dx) by simp,D0 (by rw[←r.length,←hs.length])];exact q
noncomputable def Jh:U->Option (List U)
 | .lst us=>some us
 | .tup us=>some us
 |_=>none
noncomputable def K_ (f:Bool->Bool):U->U->R U:=λu w=>match o8 u,(Jh w).bind ja with
 |some dx,some ds=>if (ds.all λd=>decide (eB d<=30))=true then .ok (.bl (f (ds.any λd=>iQ d dx))) else .stk
 |_,_=>.stk
theorem Ji {f:Bool->Bool}:fz K (U1 K f) .S (K_ f):=λA H x y u w z Q hx hy mu e q=>by
 unfold K_ at e;split at e
 ·rename_i dx ds h1 h2;split at e
  ·rename_i hd;cases e;cases w with
   |lst us=>
    obtain⟨a,xs,rfl,h3,l1,r1⟩:=hy;exact⟨a,xs,ds,dx,rfl,.inl (fX.of h3),xC hx h1,jB r1 h2,λd m=>of_decide_eq_true (aaJ.mp hd d m),q _ H (aJ.refl _) (show Rp K H A _ _ from fA)⟩
   |tup us=>
    obtain⟨a,xs,rfl,h3,l1,r1⟩:=hy;exact⟨a,xs,ds,dx,rfl,.inr (gr.of h3),xC hx h1,jB r1 h2,λd m=>of_decide_eq_true (aaJ.mp hd d m),q _ H (aJ.refl _) (show Rp K H A _ _ from fA)⟩
   |_=>cases h2
  ·cases e
 ·cases e
end L2
namespace L2
open Hc.Dw Hc.Ts
noncomputable def Jj (ls ws:List U)(p:U×U):Bool:=match fq ls ws p.1 with
 |some w=>decide (w=p.2)
 |none=>false
noncomputable def FH (ks us ls ws:List U):Bool:=ks.length==ls.length&&(ks.zip us).all (Jj ls ws)
noncomputable def D3 (f:Bool->Bool):U->U->R U:=λu w=>match u,w with
 | .dct ks us,.dct ls ws=>if (mQ ks&&mQ ls&&(dz us).isSome&&(dz ws).isSome)=true then .ok (.bl (f (FH ks us ls ws))) else .stk
 |_,_=>.stk
noncomputable def B3 (fs:List (List U×aaM×V))(e:List U×aaM×V):Bool:=match jw fs e.1 with
 |some v=>decide (FA v=FA e.2.2)
 |none=>false
def B4 (es:List (List U×aaM×V)):Prop:=∃ns:List Int,es.map (·.2.2)=ns.map V.int
theorem ui (h:B4 es){e:List U×aaM×V}(m:e∈es):∃n,e.2.2=.int n:=by
 obtain⟨ns,z⟩:=h;have:e.2.2∈ns.map V.int:=by rw[←z];exact aaI m
 obtain⟨n,_,q⟩:=aas.mp this;exact⟨n,q.symm⟩
def O5 (f:Bool->Bool):R2:=λx y H Q=>∃a b es fs,x=.ref a/\y=.ref b/\fF H a es/\fF H b fs/\B4 es/\B4 fs/\Q (.bl (f (es.length==fs.length&&es.all (B3 fs)))) H
theorem D4 {fs:List (List U×aaM×V)}{k:List U}(h:jw fs k=some v):∃e∈fs,e.2.2=v:=by
 obtain⟨e,h1,h2⟩:=ady.mp h;exact⟨e,List.mem_of_find?_eq_some h1,h2⟩
theorem D5 {xs:List (List U×aaM×aak)}(p:adD CN es xs)(h:B4 es):z9 xs:=by
 intro x hx;obtain⟨e,he,r⟩:=lR p hx;obtain⟨n,en⟩:=ui h he;have:=r.2.2;rw[en] at this;obtain⟨t,z⟩:=this;exact⟨n,t,z⟩
theorem Jk {fs:List (List U×aaM×V)}{ys:List (List U×aaM×aak)}(pf:adD CN fs ys)(hf:B4 fs):∀{xs:List (List U×aaM×aak)},adD CN es xs->B4 es->xs.all (uf ys)=es.all (B3 fs):=by
 intro xs p h;have one:∀e x,CN e x->(∃n,e.2.2=.int n)->uf ys x=B3 fs e:=by
  rintro e x ⟨r1,r2,r3⟩ ⟨n,en⟩;rw[en] at r3;obtain⟨t,ex⟩:=r3;unfold uf B3;rw[←r1];have rel:=fZ e.1 pf;cases c:atKey ys e.1 with
  |none=>
   rw[c] at rel;cases d:jw fs e.1 with
   |none=>rfl
   |some v=>rw[d] at rel;exact rel.elim
  |some q=>
   rw[c] at rel;cases d:jw fs e.1 with
   |none=>rw[d] at rel;exact rel.elim
   |some v=>
    rw[d] at rel;obtain⟨g,gm,gv⟩:=D4 d;obtain⟨m,em⟩:=ui hf gm;rw[gv] at em;subst em;obtain⟨t2,eq⟩:∃t,q.2=.int m t:=rel;dsimp only;rw[ex,eq,en];show (n==m)=decide (m=n);by_cases z:n=m
    ·subst z;simp
    ·rw[beq_eq_false_iff_ne.mpr z,hV (λq=>z q.symm)]
 obtain⟨ns,hn⟩:=h
 induction p generalizing ns with
 |nil=>rfl
 | @cons e x es xs r t ih=>
  cases ns with
  |nil=>cases hn
  |cons n ns=>
   injection hn with h1 h2
   rw[abT,abT,one e x r ⟨n,h1⟩,ih ns h2]
theorem ME (hu:X.A.units+64<abI):j6 X (abO .Eq) (O5 id):=by
 intro pins s σ H x y v u Q I rx ry h;obtain⟨a,b,es,fs,rfl,rfl,da,db,ie,jf,q⟩:=h;cases rx;cases ry;obtain⟨xs,p1,d1⟩:=da.of I.hok;obtain⟨ys,p2,d2⟩:=db.of I.hok;have l1:=adh p1;have l2:=adh p2;refine ZG (da.lo I.hok) (db.lo I.hok) (lU hu) (by lia) d1 d2 (D5 p1 ie) (D5 p2 jf) ⟨.bl _,H,I,rfl,?_⟩;rw[Jk p2 jf p1 ie,←l1,←l2];exact q
theorem D6 {ls ws:List U}{fs:List (List U×aaM×V)}{H:Hp}{A:aaM->Prop}(rl:aS K H A ws (fs.map (·.2.2)))(el:ls=fs.map (λp=>.tup p.1))(jf:B4 fs):∀{es:List (List U×aaM×V)} {ns:List Int},es.map (·.2.2)=ns.map V.int->
  ((es.map λp=>U.tup p.1).zip (ns.map U.int)).all (Jj ls ws)=es.all (B3 fs)
 | [],[],_=>rfl
 | [],_::_,h=>by cases h
 |_::_,[],h=>by cases h
 |e::es,n::ns,h=>by
  rw[aag] at h;injection h with h1 h2
  rw[aag,aag,aeJ,abT,D6 rl el jf h2];congr 1;unfold Jj B3;subst el;obtain⟨g1,g2⟩:=xF rl;cases c:fq _ ws _ with
  |none=>rw[g2 c]
  |some w=>
   obtain⟨v,d,rp⟩:=g1 w c;rw[d];obtain⟨g,gm,gv⟩:=D4 d;obtain⟨m,em⟩:=ui jf gm;rw[gv] at em;subst em;have ew:w=.int m:=by
    cases w<;>unfold Rp at rp<;>first|(cases rp;rfl)|(cases rp;done)|(obtain⟨_,_,z,_⟩:=rp;cases z;done)|(obtain⟨_,_,_,_,z,_⟩:=rp;cases z)
   subst ew;rw[h1];show decide _=decide _;by_cases z:m=n
   ·subst z;simp
   ·rw[hV (λq=>z (by cases q;rfl)),hV (p:=FA (V.int m)=FA (V.int n)) z]
theorem Jl {f:Bool->Bool}:fz K (O5 f) .S (D3 f):=λA H x y u w z Q hx hy mu e q=>by
 unfold D3 at e;split at e
 ·rename_i ks us ls ws;split at e
  ·rename_i c;cases e;rw[aau,aau,aau] at c;obtain⟨⟨⟨c1,c2⟩,c3⟩,c4⟩:=c;obtain⟨ns,e3⟩:=aem.mp c3;obtain⟨ms,e4⟩:=aem.mp c4;obtain⟨a,xs,rfl,d1,_,r1⟩:=hx;obtain⟨b,ys,rfl,d2,_,r2⟩:=hy;have Zh:∀{a:aaM} {ks:List U} {xs:List V},mQ ks=true->xm H a ks xs->∃es,fF H a es/\ks=es.map (λp=>.tup p.1)/\xs=es.map (·.2.2):=by
    intro a ks xs w d;rcases d with⟨aX,h,rfl,rfl⟩|⟨es,n,h,e1,e2⟩
    ·obtain⟨es,ep,q1,_⟩:=pq w (.inl ⟨aX,h,rfl,rfl⟩);rw[h] at q1;cases q1
    ·exact⟨es,h,e1,e2⟩
   obtain⟨es,n1,f1,g1⟩:=Zh c1 d1;obtain⟨fs,n2,f2,g2⟩:=Zh c2 d2;have eu:=gH e3;have ew:=gH e4;subst eu ew;have t1:=r1.toI;have t2:=r2.toI;rw[g1] at t1;rw[g2] at t2;rw[g2] at r2;refine⟨a,b,es,fs,rfl,rfl,n1,n2,⟨ns,t1⟩,⟨ms,t2⟩,q _ H (aJ.refl _) (show Rp K H A _ _ from ?_)⟩;have:FH ks (ns.map .int) ls (ms.map .int)=(es.length==fs.length&&es.all (B3 fs)):=by
    unfold FH;rw[f1,D6 r2 f2 ⟨ms,t2⟩ t1,f2,aab,aab]
   rw[this];exact fA
  ·cases e
 ·cases e
end L2
namespace L2
open Hc.Dw Hc.Ts
noncomputable def gz (es fs:List (List U×aaM×V)):List (List U×aaM×V):=fs.foldl (λes e=>iC es e.1 e.2.1 e.2.2) es
theorem wC:∀{fs:List (List U×aaM×V)} {ys:List (List U×aaM×aak)} {es:List (List U×aaM×V)} {xs:List (List U×aaM×aak)},adD CN fs ys->adD CN es xs->adD CN (gz es fs) (fT xs ys)
 |_,_,es,xs,.nil,p=>p
 |f::fs,y::ys,es,xs,.cons r t,p=>by
  unfold gz fT;rw[abv,abv];have:=sN f.1 (b:=f.2.1) r.2.2 p;have e1:=r.1;have e2:=r.2.1;rw[show storedH xs f.1 f.2.1 y.2.2=storedH xs y.1 y.2.1 y.2.2 by rw[e1,e2]] at this;exact wC t this
def Jm (H:Hp)(z:V)(e:List U×aaM×V):Prop:=∃T,z=.ref T/\H T=some (.tup [.ref e.2.1,e.2.2])/\qU H e.1 e.2.1
def Jn:List V->Hp->VK->Prop:=λxs H Q=>∃(p:aaM) (zs:List V) (es:List (List U×aaM×V)),xs=[.ref p]/\H p=some (.lst zs)/\zs.length<=1000000/\adD (Jm H) zs es/\∀l ep,H l=none->Q (.ref l) (cT H l (DN l ep (gz [] es)))
theorem Ad {pins:List (aaM×Obj)}{σ:St}{H:Hp}{s:aaD}(I:aE X pins σ H s):∀{zs:List V} {es:List (List U×aaM×V)} {aD:List aak},adD (Jm H) zs es->aV zs aD->∃xs,adD CN es xs/\aD.length=xs.length/\∀(i:Nat) v,aD[i]? = some v->∃e,xs[i]? = some e/\B0 s.heap v e
 |_,_,_,.nil,.nil=>⟨[],.nil,rfl,λi v h=>by simp at h⟩
 |z::zs,e::es,v::aD,.cons r t,.cons rv tv=>by
  obtain⟨xs,p,n,at_⟩:=Ad I t tv;obtain⟨T,rfl,hT,kt⟩:=r;cases rv;obtain⟨_,ts,rt,it,_⟩:=I.hok T _ hT;cases rt with
  |cons r1 rr=>
   cases rr with
   | @cons _ w _ _ r2 rr2=>
    cases rr2;cases r1;refine⟨(e.1,e.2.1,w)::xs,.cons ⟨rfl,rfl,r2⟩ p,by rw[aat,aat,n],λi v h=>?_⟩;cases i with
    |zero=>
     simp at h;subst h;exact⟨(e.1,e.2.1,w),by simp,T,rfl,it,kt.tk I.hok⟩
    |succ i=>
     obtain⟨e',h1,h2⟩:=at_ i v (by simpa using h);exact⟨e',by simpa using h1,h2⟩
theorem B5 (hc:X.calm=true)(hu:X.A.units+64<abI):d5 X (.type "dict") Jn:=by
 intro pins s σ H xs us Q I r h;obtain⟨p,zs,es,rfl,hp,hz,pr,q⟩:=h;obtain⟨u,rfl,rx⟩:=gX r;cases rx;obtain⟨_,aD,n0,rv,n1,e⟩:=I.lstM hp;obtain⟨ys,p1,n2,at_⟩:=Ad I pr rv;refine FD (I.ok.hd hc) hu e at_ n2 (by lia) λh' tk dd kp=>?_;have rel:=wC p1 .nil;obtain⟨o,ds,ep,q1,q2,q3,q4,q5,q6⟩:=dd;have ns:=beq_eq_false_iff_ne.mpr (acX I.big);exact⟨.ref _,_,I.laid (o:=DN _ ep _) kp (aao _) ⟨⟨ns,o,ds,_,q1,q2,q3,rel,q4⟩,⟨o,q1⟩,λg1 g2 ⟨l,o,ds,xs,z1,z2⟩ kp=>⟨l,o,ds,xs,kp _ z1,z2⟩⟩,rfl,q _ ep (I.hok.fresh (aao _))⟩
noncomputable def FI:List U->List U->List U->Option (List U×List U)
 |ks,us,[]=>some (ks,us)
 |ks,us,.tup [k,v]::ps=>if Bz k=true then FI (g7 ks k) (f9 ks us k v) ps else none
 |_,_,_=>none
noncomputable def uj:List U->R U:=λus=>match us with
 | [.lst ps]=>if ps.isEmpty=false/\ps.length<=1000000 then (match FI [] [] ps with
  |some (ks,us)=>.ok (.dct ks us)
  |none=>.stk) else .stk
 |_=>.stk
theorem Jo {H:Hp}{A:aaM->Prop}:∀{ps:List U} {ks us ks' PB:List U} {zs:List V} {fs:List (List U×aaM×V)},FI ks us ps=some (ks',PB)->aS K H A ps zs->ks=fs.map (λp=>.tup p.1)->aS K H A us (fs.map (·.2.2))->(fs.map (·.1)).Nodup->(∀e∈fs,qU H e.1 e.2.1)->
  ∃es,adD (Jm H) zs es/\ks'=(gz fs es).map (λp=>.tup p.1)/\aS K H A PB ((gz fs es).map (·.2.2))/\((gz fs es).map (·.1)).Nodup/\(∀e∈gz fs es,qU H e.1 e.2.1)/\es.length=ps.length/\(gz fs es).length<=fs.length+es.length
 | [],ks,us,ks',PB,zs,fs,h,r,ek,ru,nd,kt=>by
  cases h;subst r;exact⟨[],.nil,ek,ru,nd,kt,rfl,aao _⟩
 |p::ps,ks,us,ks',PB,zs,fs,h,r,ek,ru,nd,kt=>by
  unfold FI at h;split at h
  ·rename_i Te;cases Te
  ·rename_i k v ps' Te;cases Te;split at h
   ·rename_i c;obtain⟨z,zr,rfl,r1,r2⟩:=r;obtain⟨T,ys,rfl,hT,fg,rr⟩:=r1;obtain⟨x1,xr,rfl,k1,rr⟩:=rr;obtain⟨x2,xr2,rfl,v1,rr⟩:=rr;subst rr;cases k<;>first|(cases c)|skip
    rename_i kk;obtain⟨b,rfl,ktb⟩:=v7 c k1;have A_:=v9 (k:=kk) (b:=b) fs x2;rw[←ek] at A_;have wW:=v_ (k:=kk) (b:=b) v1 ru;rw[←ek] at wW;obtain⟨es,a1,a2,a3,a4,a5,a6,a7⟩:=Jo h r2 A_.symm wW (C2 nd) (zB kt ktb);have pl:(iC fs kk b x2).length<=fs.length+1:=by
     unfold iC;split
     ·rw[aab];lia
     ·rw[aaj];exact aao _
    refine⟨(kk,b,x2)::es,.cons ⟨T,rfl,hT,ktb⟩ a1,a2,a3,a4,a5,by rw[aat,aat,a6],?_⟩;show (gz (iC fs kk b x2) es).length<=_;rw[aat];lia
   ·cases h
  ·cases h
theorem wD:∀{es fs:List (List U×aaM×V)},(es≠[]\/fs≠[])->gz es fs≠[]
 |es,[],h=>by rcases h with h|h;exact h;exact absurd rfl h
 |es,f::fs,_=>wD (fs:=fs) (.inl C3)
theorem FJ:lW K Jn .O uj:=λA H vs us z Q h mu e q=>by
 unfold uj at e;split at e
 ·split at e
  ·rename_i c;split at e
   ·rename_i ks PB e1;cases e;obtain⟨v,rfl,p⟩:=h.one;obtain⟨a,zs,rfl,h1,l1,r1⟩:=p;obtain⟨es,a1,a2,a3,a4,a5,a6,a7⟩:=Jo (fs:=[]) e1 r1 rfl aS.nil acv (λe he=>by cases he);have ne:es≠[]:=λz=>by
     rw[z] at a6;have:=abJ a6.symm;rw[this] at c;cases c.1
    have nz:zs.length<=1000000:=by rw[←r1.length];exact c.2
    refine⟨a,zs,es,rfl,h1,nz,a1,λl ep hn=>?_⟩;have sm:=cF hn (DN l ep (gz [] es));refine q _ _ sm ⟨l,rfl,hn,?_⟩;refine⟨_,.inr ⟨gz [] es,wD (.inr ne),⟨.inl ⟨ep,bj⟩,a4,λe he=>(a5 e he).to λb ys w=>sm b _ w⟩,a2,rfl⟩,?_,a3.re mu (eQ.same sm) λb z=>?_⟩
    ·have n1:=a3.length;rw[aab] at n1;simp only[adH] at a7;lia
    ·rcases z with z|z
     ·exact .inl z
     ·subst z;exact .inr hn
   ·cases e
  ·cases e
 ·cases e
end L2
namespace L2
open Hc.Dw Hc.Ts
noncomputable def Rz:U->U->R Bool
 | .int a,.int b=>.ok (a==b)
 | .bl a,.bl b=>.ok (a==b)
 | .str a,.str b=>.ok (a==b)
 |_,_=>.stk
noncomputable def mj (f:Bool->Bool):U->U->R U:=λu w=>(Rz u w).bind λb=>.ok (.bl (f b))
theorem kS:fz K Yv .S (mj id):=λA H x y u w z Q hx hy mu e q=>by
 obtain⟨b,e1,e2⟩:=R.bind_ok e;unfold Rz at e1;split at e1
 ·cases e1;cases e2;rw[hx.int,hy.int];refine⟨rfl,?_⟩;rw[rD];exact q _ H (aJ.refl _) (show Rp K H A _ _ from fA)
 ·cases e1;cases e2;rw[hx.bl,hy.bl];refine⟨rfl,?_⟩;rw[xb];exact q _ H (aJ.refl _) (show Rp K H A _ _ from fA)
 ·cases e1;cases e2;rw[hx.str,hy.str];refine⟨rfl,?_⟩;rw[rE];exact q _ H (aJ.refl _) (show Rp K H A _ _ from fA)
 ·cases e1
theorem yd:fz K Yw .S (mj not):=λA H x y u w z Q hx hy mu e q=>by
 obtain⟨b,e1,e2⟩:=R.bind_ok e;unfold Rz at e1;split at e1
 ·cases e1;cases e2;rw[hx.int,hy.int];refine⟨rfl,?_⟩;rw[rD];exact q _ H (aJ.refl _) (show Rp K H A _ _ from fA)
 ·cases e1;cases e2;rw[hx.bl,hy.bl];refine⟨rfl,?_⟩;rw[xb];exact q _ H (aJ.refl _) (show Rp K H A _ _ from fA)
 ·cases e1;cases e2;rw[hx.str,hy.str];refine⟨rfl,?_⟩;rw[rE];exact q _ H (aJ.refl _) (show Rp K H A _ _ from fA)
 ·cases e1
end L2
namespace L2
open PySem.W Hc.Dw
def uk {w:abq}{A:aba}{k v:aca}(h:aaW (aa1 prog w) A (adB k env) (λkv s1=>aaW (aa1 prog w) A (adB v env) (λvv s2=>aaW (aa1 prog w) A (dictSet s.heap.objs.size kv vv) (λ_ s3=>Q (.ref s.heap.objs.size) s3) E s2) E s1) E {s with heap:=s.heap.push {cls:=.type "dict",data:=.dict #[]}}) :
  aaW (aa1 prog w) A (adB (.Dict [some k] [v] pos) env) Q E s:=by
 rw[arm_eval_Dict,zip_pairTrees [some k] [v] env pos rfl rfl,dictDisplay_pairs _ (by simp[pairTrees]) (by simp[pairTrees])];refine aaa (wpAny_standAt (aaa ?_));refine aaa (wpAny_alloc ?_);refine aaa (abt ?_);refine aaa (pairTrees_cons_walk (abk h (λkv s1 h1=>abk h1 (λvv s2 h2=>pairTrees_nil_walk ?_) λ_ _ e=>e) λ_ _ e=>e));refine abt ?_;rw[afv];refine aaa (aaa (aaa (abk h2 (λ_ s3 h3=>aae ?_) λ_ _ e=>e)));show aaW _ _ _ _ _ _;exact aae (aae (aae (aae h3)))
def RA (tk tv:TE):TE:=λσ H Q=>∀p,H p=none->tk σ (cT H p (.dK [])) λx H1=>tv σ H1 λy H2=>∃kk b,x=.ref b/\H2 p=some (.dK [])/\qU H2 kk b/\∀ep,Q (.ref p) (cT H2 p (DN p ep (iC [] kk b y)))
theorem Jp {k v:aca}{tk tv:TE}(hu:X.A.units+64<abI)(hk:PE X k tk)(hv:PE X v tv):PE X (.Dict [some k] [v] pos) (RA tk tv):=by
 intro pins s σ H Q I q;have hn:=I.hok.fresh (aao _);have I1:=I.laid (t':=s.toks) (λ_ _ q=>aad _ q) (aao _) (y_ s.heap I.big);refine uk (dE (hk pins _ σ _ _ I1 (q _ hn)) λu s1 ⟨x,H1,I1,rx,q1⟩=>dE (hv pins s1 σ H1 _ I1 q1) λw2 s2 ⟨y,H2,I2,ry,q2⟩=>?_);obtain⟨kk,b,rfl,e,kb,q2⟩:=q2;cases rx;have g:fF H2 _ []:=⟨.inr ⟨rfl,e⟩,acv,λe he=>by cases he⟩;obtain⟨xs,rel,dd⟩:=g.of I2.hok;refine wpAny_dictSet_heap (hsz:=by rw[←adh rel];exact acM _) (show X.A.units+20<abI by lia) (kb.tk I2.hok) dd λh' Pw hs=>?_;obtain⟨q,ds,ep,hq,h2,h3,h4,_,h5⟩:=Pw;refine⟨.ref _,_,?_,rfl,q2 ep⟩;exact rF I2 g.mut hs ⟨q,hq⟩ ⟨⟨g.lo I2.hok,q,ds,_,hq,h2,h3,sN kk ry rel,h4⟩,⟨q,hq⟩,λg1 g2 ⟨l,o,ds,xs,z1,z2⟩ kp=>⟨l,o,ds,xs,kp _ z1,z2⟩⟩
end L2
namespace L2
open Hc.Zp
theorem Ae {prog:acC}{w:abq}{A:aba}{E:aak->aaD->Prop}{s:aaD}{Q:Option PySem.Fin×PUnit->aaD->Prop}{xs:Array aak}{k:Int}{t:Tok}{j:Nat}(hj:∃t',xs[j]? = some (.int k t'))(hn:∀i,i<j->∃n t',xs[i]? = some (.int n t')/\n≠k)
  (q:Q (some (.done (.ret (.int j s.toks))),()) {s with toks:=s.toks+1}):∀(m i:Nat),i<=j->j<i+m->aaW (aa1 prog w) A (forIn (List.range' i m) ((none,()):Option PySem.Fin×PUnit) λ(i:Nat) __s=>match xs[i]? with
      |some y=>do
       let __do_lift ←eqBool y (Value.int k t)
       if __do_lift=true then do
         let __do_lift ←retInt (i:Int)
         pure (ForInStep.done (some __do_lift,()))
        else pure (ForInStep.yield (none,()))
      |x=>pure (ForInStep.yield (none,()))) Q E s
 |0,i,h1,h2=>by lia
 |m+1,i,h1,h2=>by
  rw[List.range'_succ,afv];by_cases c:i=j
  ·subst c;obtain⟨t',e⟩:=hj;rw[e];refine aaa (aaa (aec ?_));rw[h9 (by simp)];refine aaa (aaa (wpAny_mkInt (aae (aae (aae q)))))
  ·obtain⟨n,t',e,ne⟩:=hn i (by lia);rw[e];refine aaa (aaa (aec ?_));rw[hZ (by simpa using ne)];exact aae (Ae hj hn q m (i+1) (by lia) (by lia))
theorem FK (a:aaM)(items:Array aak)(n:Nat)(dd:Option aaM)(sl:Array (Option aak))(k:Int)(t:Tok)(j:Nat)(hj:∃t',items[j]? = some (.int k t'))(hn:∀i,i<j->∃n t',items[i]? = some (.int n t')/\n≠k):Meets (Builtin.«tuple.index» ⟨[.ref a,.int k t],[]⟩) (λA R s=>s.heap.get? a=some {cls:=.type "tuple",dict:=dd,data:=.seq items n,slots:=sl}/\R (.ok (.ret (.int j s.toks))) {s with toks:=s.toks+1}):=
 .of_wp λprog w A R s h=>by
  obtain⟨hl,h⟩:=h;have lt:j<items.size:=by
   obtain⟨t',e⟩:=hj;exact (Array.getElem?_eq_some_iff.mp e).1
  unfold Builtin.«tuple.index»;simp only[adW];refine aaa (afx rfl ?_);wp_walk using AutoSeq1.wpAny_loadPart' hl;refine Ae hj hn ?_ _ 0 (acM _) ?_
  ·exact aae ⟨_,rfl,h⟩
  ·simpa [Std.Legacy.Range.size] using lt
noncomputable def FN (k:Int):Nat->List U->Option Nat
 |_,[]=>none
 |i,.int j::us=>if j=k then some i else FN k (i+1) us
 |_,_=>none
theorem D7 {k:Int}{j:Nat}:∀(us:List U) (i:Nat),FN k i us=some j->∃m,j=i+m/\us[m]? = some (.int k)/\∀q,q<m->∃n,us[q]? = some (.int n)/\n≠k
 | [],i,h=>by cases h
 |u::us,i,h=>by
  cases u with
  |int n=>
   have h:(if n=k then some i else FN k (i+1) us)=some j:=h;split at h
   ·rename_i c;cases h;exact⟨0,rfl,by rw[←c];rfl,λq hq=>by lia⟩
   ·rename_i c;obtain⟨m,rfl,h2,h3⟩:=D7 us (i+1) h;refine⟨m+1,by lia,h2,λq hq=>?_⟩;cases q with
    |zero=>exact⟨n,rfl,c⟩
    |succ q=>exact h3 q (by lia)
  |_=>cases h
noncomputable def B6:U->U->R U:=λu w=>match u,w with
 | .tup us,.int k=>match FN k 0 us with
  |some i=>.ok (.int i)
  |none=>.stk
 |_,_=>.stk
def Xz:V->List V->Hp->VK->Prop:=λx vs H Q=>∃(a:aaM) (xs:List V) (k:Int) (j:Nat),x=.ref a/\H a=some (.tup xs)/\vs=[.int k]/\xs[j]? = some (.int k)/\(∀q,q<j->∃n,xs[q]? = some (.int n)/\n≠k)/\Q (.int j) H
noncomputable def Jq (g1:Ev->R (U×Ev))(ga:Ev->R (List U×Ev)):Ev->R (U×Ev):=λρ=>(g1 ρ).bind λx=>(ga x.2).bind λy=>match y.1 with
 | [w]=>(B6 x.1 w).bind λz=>.ok (z,y.2)
 |_=>.stk
section
variable {e e2:aca}{b1 b2:Bool}{m m1:Md}{g1:Ev->R (U×Ev)}{ga:Ev->R (List U×Ev)}{bW cpos:Pos}
theorem Jr:K7 X "tuple.index" Xz:=by
 intro pins s σ H x vs v us Q I rx rv h;obtain⟨a,xs,k,j,rfl,ha,rfl,h1,h2,q⟩:=h;cases rx;cases rv with
 |cons r rr=>
  cases rr;obtain⟨t,rfl⟩:=r;obtain⟨aD,rv,ht,hz⟩:=I.tuple (gr.of ha);obtain⟨⟨c,dd,dt,sl⟩,ho,hc,n,hd⟩:=id ht;subst hc hd;have el:∀(i:Nat) (n:Int),xs[i]? = some (.int n)->∃t',aD.toArray[i]? = some (.int n t'):=λi n e=>by
   obtain⟨u,h3,t',h4⟩:=rv.get e;exact⟨t',by rw[←h4];simpa using h3⟩
  exact aeV af4 ⟨_,ho,rfl⟩ PySem.F.entry_tuple_index (PySem.F.args_tuple_index_2 _ _) (FK a _ n dd sl k t j (el j k h1) λi hi=>by
   obtain⟨n,e1,e2⟩:=h2 i hi;obtain⟨t',e3⟩:=el i n e1;exact⟨n,t',e3,e2⟩) ⟨ho,.int j,H,I.tok _,⟨_,rfl⟩,q⟩
theorem Js (h:DE X G e b1 m1 g1)(ha:DA X G [e2] b2 false ga)(hn:m1≠.P:=by decide)(u3:adP e "index" X.env (adB e X.env)=adB e X.env:=by rfl)
  (Cy:((acq cpos (aaC [e2] X.env)).all (λx=> !x.1)&&(backToKw cpos (aeU [] X.env)).all (λx=>x.1.isSome)
   && decide ([e2].length+([]:List aex).length+(if ([]:List aex).isEmpty then 0 else 1)<30))=true:=by rfl)
  (u4:(bW.endLine==cpos.line)=true:=by rfl) (hs:aaC [e2] X.env=(false,adB e2 X.env)::aaC [] X.env:=by rfl) (mL:(acq cpos (aaC [] X.env)).any (·.1)=false:=by rfl) :
  DE X G (.Call (.Attribute e "index" bW) [e2] [] cpos) (b1||b2) .S (Jq g1 ga):=⟨(GN af5 af4 PySem.F.type_tuple_index Jr h.un ha.un u3 Cy u4 hs mL).to λσ H Q h00=>by
 obtain⟨Z,A,ρ,q,f⟩:=h00;refine⟨Z,A,ρ,q,?_⟩;obtain⟨⟨u,ρ1⟩,e1,f⟩:=f.bind;obtain⟨⟨ws,ρ2⟩,e2,f⟩:=f.bind;dsimp only at e2 f;split at f
 ·obtain⟨z,e3,f⟩:=f.bind;rw[e1];intro v H1 q1 x1 s1 vm;unfold B6 at e3;split at e3
  ·rename_i us k _;split at e3
   ·rename_i j hj;cases e3;obtain⟨j',ej,h1,h2⟩:=D7 us 0 hj;rw[adg] at ej;subst ej;have p:=vm.rp hn;have p':=p;obtain⟨a,xs,rfl,ha,_,_⟩:=p';refine⟨.inr (.inl ⟨rfl,.inr ⟨xs,ha⟩⟩),Z,A,ρ1,q1,?_⟩;rw[e2];intro vs H2 q2 x2 s2 wX;have r:=wX.rps;obtain⟨v2,vr,rfl,r1,r2⟩:=r;subst r2;have r3:=r1.pk.int;subst r3;have p2:=p.re q1.mu x2 λb z=>.inl z;obtain⟨a',xs',ea,Bb,_,z2⟩:=p2;cases ea;have el:∀(i:Nat) (n:Int),us[i]? = some (.int n)->xs'[i]? = some (.int n):=λi n e=>by
     obtain⟨x,hx,px⟩:=z2.get e;rw[hx,px.pk.int]
    exact⟨a,xs',k,j,rfl,Bb,rfl,el _ _ h1,λi hi=>by
     obtain⟨n,e4,e5⟩:=h2 i hi;exact⟨n,el _ _ e4,e5⟩,f _ H2 q2 (x1.trans x2) (two s1 s2) (vk.ofS cU)⟩
   ·cases e3
  ·cases e3
 ·exact f.elim⟩
end
end L2
namespace L2
noncomputable def RB:D->Bool
 | .tup xs=>xs.all λd=>match d with
  | .int _=>true
  |_=>false
 |_=>false
theorem ye {d:D}(h:RB d=true):∃ns:List Int,d=.tup (ns.map .int):=by
 have:∀xs:List D,(xs.all λd=>match d with|.int _=>true|_=>false)=true->∃ns:List Int,xs=ns.map .int:=by
  intro xs
  induction xs with
  |nil=>exact λ_=>⟨[],rfl⟩
  |cons x xs ih=>
   intro h;rw[abT,aau] at h;obtain⟨ns,rfl⟩:=ih h.2;cases x with
   |int i=>exact⟨i::ns,rfl⟩
   |_=>cases h.1
 cases d with
 |tup xs=>
  obtain⟨ns,rfl⟩:=this xs h;exact⟨ns,rfl⟩
 |_=>cases h
theorem Af (ns ms:List Int):iQ (.tup (ns.map .int)) (.tup (ms.map .int))=decide (ns=ms):=by
 unfold iQ
 induction ns generalizing ms with
 |nil=>cases ms<;>(rfl)
 |cons n ns ih=>
  cases ms with
  |nil=>rfl
  |cons m ms=>
   rw[aag,aag];unfold ju iQ;rw[ih ms];by_cases c:n=m<;>simp[c]
theorem FO (ns:List Int):eB (.tup (ns.map .int))<=1:=by
 unfold eB;have:iH (ns.map D.int)=0:=by
  induction ns with
  |nil=>rfl
  |cons n ns ih=>rw[aag];unfold iH eB;rw[ih];rfl
 lia
def XB (K:aai):V->List V->Hp->VK->Prop:=λx vs H Q=>∃(a:aaM) (xs:List V) (ds:List D) (dx:D) (y:V),x=.ref a/\gr K H a xs/\vs=[y]/\iG K H dx y/\fD K H ds xs/\(∀d∈ds,RB d=true)/\Q (.int (ds.countP λd=>iQ d dx:Nat)) H
noncomputable def um:U->U->R U:=λu w=>match u,o8 w with
 | .tup us,some dx=>match ja us with
  |some ds=>if ds.all RB=true then .ok (.int (ds.countP λd=>iQ d dx:Nat)) else .stk
  |none=>.stk
 |_,_=>.stk
noncomputable def Jt (g1:Ev->R (U×Ev))(ga:Ev->R (List U×Ev)):Ev->R (U×Ev):=λρ=>(g1 ρ).bind λx=>(ga x.2).bind λy=>match y.1 with
 | [w]=>(um x.1 w).bind λz=>.ok (z,y.2)
 |_=>.stk
theorem wF {α β:Type}{p:α->Bool}{q:β->Bool}:∀{l:List α} {m:List β},l.length=m.length->(∀(i:Nat) (a:α) (b:β),l[i]? = some a->m[i]? = some b->p a=q b)->l.countP p=m.countP q
 | [],[],_,_=>rfl
 |a::l,b::m,h,e=>by
  have e0:=e 0 a b rfl rfl;rw[List.countP_cons,List.countP_cons,wF (by simpa using h) λi a b h1 h2=>e (i+1) a b h1 h2,e0]
section
variable {e e2:aca}{b1 b2:Bool}{m m1:Md}{g1:Ev->R (U×Ev)}{ga:Ev->R (List U×Ev)}{bW cpos:Pos}
theorem Ju (hu:X.A.units+64<abI):K7 X "tuple.count" (XB X.K):=by
 intro pins s σ H x vs v us Q I rx rv h;obtain⟨a,xs,ds,dx,y,rfl,ha,rfl,hx,hs,hd,q⟩:=h;cases rx;cases rv with
 |cons r rr=>
  rename_i yv _;cases rr;obtain⟨aD,rv,ht,hz⟩:=I.tuple ha;obtain⟨⟨c,dd,dt,sl⟩,ho,hc,n,hdt⟩:=id ht;subst hc hdt;have VX:∀d∈ds,eB d<=30:=λd m=>by
   obtain⟨ns,rfl⟩:=ye (hd d m);have:=FO ns;lia
  have cn:aD.toArray.toList.countP (B2 aD ds dx)=ds.countP λd=>iQ d dx:=by
   show aD.countP _=_;refine wF (by rw[←rv.length,←hs.length]) λi u d h1 h2=>?_;have hi:=(aap.mp h1).1;have key:∀(j:Nat) (d':D),aD[j]? = some u->ds[j]? = some d'->d'=d:=λj d' g1 g2=>by
    have lj:=(aap.mp g1).1;have l1:=rv.length;obtain⟨u1,k1,k2⟩:=rv.get (aac _);obtain⟨u2,k3,k4⟩:=rv.get (aac _);rw[h1] at k1;rw[g1] at k3;cases k1;cases k3;have same:=k2.inj k4;have r1:=hs.get h2 (aac (by lia));have r2:=hs.get g2 (aac (by lia));rw[←same] at r2;have:=sE I 30 d' d _ (VX d' (aaZ g2)) r2 r1;obtain⟨n1,rfl⟩:=ye (hd d (aaZ h2));obtain⟨n2,rfl⟩:=ye (hd d' (aaZ g2));rw[Af] at this;rw[of_decide_eq_true this]
   rw[abu,nQ];exact⟨fun⟨j,d',g1,g2,g3⟩=>by rw[←key j d' g1 g2];exact g3,λh=>⟨i,d,h1,h2,h⟩⟩
  refine aeV af6 ⟨_,ho,rfl⟩ PySem.F.entry_tuple_count (PySem.F.args_tuple_count_2 _ _) (SeqAt.tuple_countAt a _ n dd sl yv _) ⟨ho,λw hw=>uh I (by show X.A.units+1+30<abI;lia) r hx rv hs VX w (by simpa using hw),.int _,H,I.tok _,⟨_,rfl⟩,?_⟩;rw[cn];exact q
theorem Jv (hu:X.A.units+64<abI)(h:DE X G e b1 m1 g1)(ha:DA X G [e2] b2 false ga)(hn:m1≠.P:=by decide)(u3:adP e "count" X.env (adB e X.env)=adB e X.env:=by rfl)
  (Cy:((acq cpos (aaC [e2] X.env)).all (λx=> !x.1)&&(backToKw cpos (aeU [] X.env)).all (λx=>x.1.isSome)
   && decide ([e2].length+([]:List aex).length+(if ([]:List aex).isEmpty then 0 else 1)<30))=true:=by rfl)
  (u4:(bW.endLine==cpos.line)=true:=by rfl) (hs:aaC [e2] X.env=(false,adB e2 X.env)::aaC [] X.env:=by rfl) (mL:(acq cpos (aaC [] X.env)).any (·.1)=false:=by rfl) :
  DE X G (.Call (.Attribute e "count" bW) [e2] [] cpos) (b1||b2) .S (Jt g1 ga):=⟨(GN af5 af6 PySem.F.type_tuple_count (Ju hu) h.un ha.un u3 Cy u4 hs mL).to λσ H Q h00=>by
 obtain⟨Z,A,ρ,q,f⟩:=h00;refine⟨Z,A,ρ,q,?_⟩;obtain⟨⟨u,ρ1⟩,e1,f⟩:=f.bind;obtain⟨⟨ws,ρ2⟩,e2,f⟩:=f.bind;dsimp only at e2 f;split at f
 ·obtain⟨z,e3,f⟩:=f.bind;rw[e1];intro v H1 q1 x1 s1 vm;unfold um at e3;split at e3
  ·rename_i us dx hdx _;split at e3
   ·rename_i ds SS;split at e3
    ·rename_i al;cases e3;have p:=vm.rp hn;have p':=p;obtain⟨a,xs,rfl,ha,_,_⟩:=p';refine⟨.inr (.inl ⟨rfl,.inr ⟨xs,ha⟩⟩),Z,A,ρ1,q1,?_⟩;rw[e2];intro vs H2 q2 x2 s2 wX;have r:=wX.rps;obtain⟨v2,vr,rfl,r1,r2⟩:=r;subst r2;have p2:=p.re q1.mu x2 λb z=>.inl z;obtain⟨a',xs',ea,Bb,_,z2⟩:=p2;cases ea;exact⟨a,xs',ds,dx,v2,rfl,gr.of Bb,rfl,xB r1 hdx,jB z2 SS,λd m=>aaJ.mp al d m,f _ H2 q2 (x1.trans x2) (two s1 s2) (vk.ofS cU)⟩
    ·cases e3
   ·cases e3
  ·cases e3
 ·exact f.elim⟩
end
noncomputable def U2:U->U->R U:=λu w=>match u with
 | .dct ks us=>if iS ks w=true then .ok ((fq ks us w).getD .non) else .stk
 |_=>.stk
section
variable {o e:aca}{bW cpos:Pos}{b1 b2:Bool}{m1 m2:Md}{g1 g2:Ev->R (U×Ev)}
theorem RC (hu:X.A.units+64<abI)(ho:DE X G o b1 m1 g1)(he:DE X G e b2 m2 g2)(n1:m1≠.P:=by decide)(n2:m2≠.P:=by decide)(M:M1 X o "get" bW e cpos:=by exact⟨rfl,rfl,rfl,rfl⟩):DE X G (.Call (.Attribute o "get" bW) [e] [] cpos) (b1||b2) .S (bb U2 g1 g2):=⟨(Hv hu ho.un he.un M).to λσ H Q h=>by
 obtain⟨Z,A,ρ,q,f⟩:=h;obtain⟨⟨u,ρ1⟩,e1,f⟩:=f.bind;obtain⟨⟨w,ρ2⟩,e2,f⟩:=f.bind;obtain⟨z,e3,f⟩:=f.bind;refine⟨Z,A,ρ,q,?_⟩;rw[e1];intro v1 H1 q1 x1 s1 pZ;cases u with
 |dct ks us=>
  unfold U2 at e3;dsimp only at e3;split at e3
  ·rename_i fk;cases e3;obtain⟨a,xs,rfl,_,d,l,r⟩:=pZ.rp n1;refine⟨a,rfl,C5 (K:=X.K) d,Z,A,ρ1,q1,?_⟩;rw[e2];intro v2 H2 q2 x2 s2 wX;have p2:=(pZ.rp n1).re q1.mu x2 λb z=>.inl z;obtain⟨a',xs',ea,_,d',_,r'⟩:=p2;cases ea;obtain⟨ov,g,z1,z2⟩:=xG d' r' fk (wX.rp n2);refine⟨ov,g,f _ H2 q2 (x1.trans x2) (two s1 s2) ?_⟩;cases hz:fq ks us w with
   |none=>rw[z2 hz];exact vk.ofS (oX)
   |some w=>obtain⟨v,rfl,rp⟩:=z1 _ hz;exact vk.ofS rp
  ·cases e3
 |_=>cases e3⟩
end
end L2
namespace L2
open Hc.Dw Hc.Ts
noncomputable def pF:Int->List Int->Int
 |m,[]=>m
 |m,n::ns=>pF (if n<m then n else m) ns
theorem yf:∀(ns:List Int) (m:Int),pF m ns<=m/\(∀a∈ns,pF m ns<=a)/\(pF m ns=m\/pF m ns∈ns)
 | [],m=>⟨ae0 _,(λa h=>by cases h),.inl rfl⟩
 |n::ns,m=>by
  obtain⟨h1,h2,h3⟩:=yf ns (if n<m then n else m);unfold pF;by_cases c:n<m
  ·rw[h9 c] at h1 h2 h3 ⊢;refine⟨by lia,λa ha=>?_,.inr ?_⟩
   ·rcases aaw.mp ha with rfl|ha
    ·exact h1
    ·exact h2 a ha
   ·rcases h3 with h3|h3
    ·rw[h3];exact aal
    ·exact aan _ h3
  ·rw[hZ c] at h1 h2 h3 ⊢;refine⟨h1,λa ha=>?_,h3.imp id λz=>aan _ z⟩;rcases aaw.mp ha with rfl|ha
   ·lia
   ·exact h2 a ha
end L2
namespace L2
open PySem.W Hc.Dw
noncomputable def Ag (mn:Bool)(n0:Int)(ns:List Int):Int:=if mn then pF n0 ns else nP n0 ns
def Jw (mn:Bool):List V->Hp->VK->Prop:=λxs H Q=>∃l a ep es n0 ns,xs=[.ref l]/\H l=some (.ext (VW l a))/\H a=some (DN a ep es)/\es.map (·.2.2)=(n0::ns).map V.int/\Q (.int (Ag mn n0 ns)) H
theorem Jx (ns:List Int)(n0:Int):(n0::ns).getD (argBest (λi j=>decide ((n0::ns).getD i 0<(n0::ns).getD j 0)) ns.length) 0=pF n0 ns:=by
 obtain⟨b1,b2⟩:=argBest_lt _ ns.length;generalize hk:argBest _ ns.length=k at b1 b2;have A_:k<(n0::ns).length:=by rw[aat];lia
 obtain⟨m1,m2,m3⟩:=yf ns n0;have get:∀a∈n0::ns,(n0::ns).getD k 0<=a:=λa ha=>by
  obtain⟨j,hj⟩:=List.getElem?_of_mem ha;have Tc:=(aap.mp hj).1;rw[aat] at Tc;have:=b2 j (by lia);have e:(n0::ns).getD j 0=a:=by rw[aav,hj];rfl
  rw[e] at this;exact this
 have mem:(n0::ns).getD k 0∈n0::ns:=by
  rw[aav,aac A_];exact aaH A_
 have g1:(n0::ns).getD k 0<=pF n0 ns:=by
  rcases m3 with m3|m3
  ·rw[m3];exact get _ aal
  ·exact get _ (aan _ m3)
 have g2:pF n0 ns<=(n0::ns).getD k 0:=by
  rcases aaw.mp mem with e|e
  ·rw[e];exact m1
  ·exact m2 _ e
 lia
theorem uo (mn:Bool)(hc:X.calm=true):d5 X (.builtin (if mn then "min" else "max")) (Jw mn):=by
 intro pins s σ H xs us Q I r h;obtain⟨l,a,ep,es,n0,ns,rfl,hl,ha,ev,q⟩:=h;obtain⟨u,rfl,rx⟩:=gX r;cases rx;obtain⟨vw,_,_⟩:=I.hok l _ hl;obtain⟨lo,ds,rd,n,at_⟩:=I.rawD ha;have nn:=by have:=congrArg afs ev;simpa using this
 have lt:=rd.lt;have fp:∀b∈[s.heap.objs.size,a],b<(s.heap.push {cls:=.type "dict_valueiterator",data:=.fields #[.ref a,.int 0 0,.int ds.size 0,.int ep 0]}).objs.size:=by
  intro b hb;rw[ab0];simp only[aaw,ads,or_false] at hb;rcases hb with rfl|rfl
  ·exact aed _
  ·exact acL lt
 have hv:∀(i:Nat) (v:aak),(∃e,ds[i]? = some e/\v=e.val)->∃t,v=.int ((n0::ns).getD i 0) t:=by
  rintro i v ⟨e,e1,rfl⟩;have hi:i<ds.size:=by
   rcases adJ i ds.size with z|z
   ·exact z
   ·rw[acR z] at e1;cases e1
  rw[getElem?_pos ds i hi] at e1;cases e1;obtain⟨x,m,_,rv⟩:=at_ i hi;have e2:(es.map (·.2.2))[i]? = some x.2.2:=by rw[aar,m];rfl
  rw[ev,aar] at e2;have PJ:i<(n0::ns).length:=by rw[aat];lia
  rw[aac PJ] at e2;injection e2 with e2
  rw[←e2] at rv;obtain⟨t,et⟩:=rv;exact⟨t,by rw[et];simp[aac PJ]⟩
 have Zi:ds.size-1=ns.length:=by lia
 have fin:∀(bt:Nat->Nat->Bool) (v:aak) (h':acP) (tk:Nat),(n0::ns).getD _ 0=Ag mn n0 ns->(∃e,ds[argBest bt (ds.size-1)]? = some e/\v=e.val)->(∀b o,b∉[s.heap.objs.size]->(s.heap.push {cls:=.type "dict_valueiterator",data:=.fields #[.ref a,.int 0 0,.int ds.size 0,.int ep 0]}).get? b=some o->h'.get? b=some o)->EP X pins σ Q v {s with heap:=h',toks:=tk}:=λbt v h' tk e hP hk=>by
  obtain⟨t,rfl⟩:=hv _ v hP;rw[e];exact⟨.int _,H,I.kept λb o z=>hk b o (by rw[aaK];exact aaN (aaA z)) (aad _ z),⟨t,rfl⟩,q⟩
 cases mn with
 |true=>
  refine call_min_walk (Dv vw rd ⟨s.heap.objs.size,[s.heap.objs.size,a],[s.heap.objs.size],ds.size,_,_,λi j=>decide _,rfl,BX (I.ok.hd hc) (aaN lt),⟨⟨_,aam _ rfl,rfl,rfl⟩,rd.at λo z=>aad _ z⟩,fp,by lia,CmpOf.ints_lt _ hv,λv h' tk hP hk=>fin _ v h' tk ?_ hP hk⟩);rw[Zi];exact Jx ns n0
 |false=>
  refine call_max_walk (Dv vw rd ⟨s.heap.objs.size,[s.heap.objs.size,a],[s.heap.objs.size],ds.size,_,_,λi j=>decide _,rfl,BX (I.ok.hd hc) (aaN lt),⟨⟨_,aam _ rfl,rfl,rfl⟩,rd.at λo z=>aad _ z⟩,fp,by lia,CmpOf.ints_gt _ hv,λv h' tk hP hk=>fin _ v h' tk ?_ hP hk⟩);rw[Zi,Ac ns n0 _ (aao _),abh];rfl
end L2
namespace L2
open PySem.W Hc.Dw
noncomputable def jJ (mn:Bool)(g:Ev->R (U×Ev)):Ev->R (U×Ev):=λρ=>(g ρ).bind λx=>match x.1 with
 | .dct ks us=>if mQ ks=true then (match dz us with
  |some (n::ns)=>.ok (.int (Ag mn n ns),x.2)
  |_=>.stk) else .stk
 |_=>.stk
section
variable {e:aca}{b1:Bool}{m1:Md}{g1:Ev->R (U×Ev)}{p1 bW cpos:Pos}
theorem wG {mn:Bool}{Q:VK}(z:tD X.K G b1 .S (jJ mn g1) σ H Q):tD X.K G b1 m1 g1 σ H λv H1=>∃a ep es,v=.ref a/\H1 a=some (DN a ep es)/\∀l,H1 l=none->Jw mn [.ref l] (cT H1 l (.ext (VW l a))) Q:=by
 obtain⟨Z,A,ρ,q,f⟩:=z;refine⟨Z,A,ρ,q,?_⟩;unfold jJ at f;cases e1:g1 ρ with
 |stk=>rw[e1] at f;exact f.elim
 |exc=>rw[e1] at f;exact f.elim
 |ok y=>
  obtain⟨u,ρ1⟩:=y;rw[e1] at f;intro v H1 q1 x1 s1 vm;cases u with
  |dct ks us=>
   dsimp only[L2.R.bind] at f;by_cases c:mQ ks=true
   ·rw[h9 c] at f;cases e2:dz us with
    |none=>rw[e2] at f;exact f.elim
    |some ns=>
     rw[e2] at f;cases ns with
     |nil=>exact f.elim
     |cons n0 ns=>
      have pk:=vm.pk;obtain⟨a,xs,rfl,d,l,r⟩:=pk;obtain⟨es,ep,hq,kt,e3,e4⟩:=pq c d;rw[gH e2] at r;have r2:=r.toI;rw[e4] at r2;refine⟨a,ep,es,rfl,hq,λl hn=>?_⟩;have ne:a≠l:=λz=>by rw[←z,hq] at hn;cases hn
      have sm:=cF hn (.ext (VW l a));exact⟨l,a,ep,es,n0,ns,rfl,bj,by rw[aI ne];exact hq,r2,f _ _ (q1.same sm) (x1.trans (eQ.same sm)) (oV s1 sm) (show Rp X.K _ A _ _ from cU)⟩
   ·rw[hZ c] at f;exact f.elim
  |_=>exact f.elim
def MG (hc:X.calm=true)(h:DE X G e b1 m1 g1)(hm:X.mg "min"=none)(hg:Gl X "min":=by rfl)(m:M0 X e "values" bW cpos:=by exact⟨rfl,rfl,rfl,rfl⟩)
  (Gg:aaC [.Call (.Attribute e "values" bW) [] [] cpos] X.env=(false,adB (.Call (.Attribute e "values" bW) [] [] cpos) X.env)::aaC [] X.env:=by rfl) (u7:(acq pos (aaC [] X.env)).any (·.1)=false:=by rfl) :
  DE X G (.Call (.Name "min" p1) [.Call (.Attribute e "values" bW) [] [] cpos] [] pos) b1 .S (jJ true g1):=⟨(j_ (uo true hc) hg hm xk (fQ (pE h.un m) jr Gg) (by decide) (by decide) Gg u7).to λσ H Q z=>wG z⟩
def MJ (hc:X.calm=true)(h:DE X G e b1 m1 g1)(hm:X.mg "max"=none)(hg:Gl X "max":=by rfl)(m:M0 X e "values" bW cpos:=by exact⟨rfl,rfl,rfl,rfl⟩)
  (Gg:aaC [.Call (.Attribute e "values" bW) [] [] cpos] X.env=(false,adB (.Call (.Attribute e "values" bW) [] [] cpos) X.env)::aaC [] X.env:=by rfl) (u7:(acq pos (aaC [] X.env)).any (·.1)=false:=by rfl) :
  DE X G (.Call (.Name "max" p1) [.Call (.Attribute e "values" bW) [] [] cpos] [] pos) b1 .S (jJ false g1):=⟨(j_ (uo false hc) hg hm G6 (fQ (pE h.un m) jr Gg) (by decide) (by decide) Gg u7).to λσ H Q z=>wG z⟩
end
noncomputable def Jy (gk:Ev->R (U×Ev)):Ev->R (U×Ev):=λρ=>(gk ρ).bind λx=>match x.1 with
 | .tup ks=>if Bz (.tup ks)=true then .ok (.dct [.tup ks] [.bl true],x.2) else .stk
 |_=>.stk
theorem Ah {pos k2 p2}{k:aca}{gk:Ev->R (U×Ev)}(hu:X.A.units+64<abI)(hk:DE X G k false .S gk):DE X G (.Dict [some k] [.Constant (.bool true) k2 p2] pos) false .O (Jy gk):=⟨(Jp hu hk.un NI).to λσ H Q h=>by
 obtain⟨Z,A,ρ,q,f⟩:=h;intro a na;have s1:=cF na (.dK []);refine⟨Z,A,ρ,q.same s1,?_⟩;unfold Jy at f;cases e1:gk ρ with
 |stk=>rw[e1] at f;exact f.elim
 |exc=>rw[e1] at f;exact f.elim
 |ok y=>
  obtain⟨u,ρ1⟩:=y;rw[e1] at f;intro v H1 q1 x1 s2 vm;obtain⟨rfl,sm⟩:=s2 rfl;dsimp only[L2.R.bind] at f;split at f
  ·rename_i ks;split at f
   ·rename_i kt;obtain⟨b,rfl,kb⟩:=v7 kt vm;have ha:=sm _ _ bj;refine⟨ks,b,rfl,ha,kb,λep=>?_⟩;have sn:aJ H (cT H1 a (DN a ep (iC [] ks b (.bl true)))):=λb o e=>by
     have nb:b≠a:=λz=>by rw[z,na] at e;cases e
     rw[aI nb];exact sm _ _ (s1 _ _ e)
    exact f _ _ (q.same sn) (eQ.same sn) (λ_=>⟨rfl,sn⟩) (CP.e q sn ⟨a,rfl,na,[.bl true],.inr ⟨[(ks,b,.bl true)],List.cons_ne_nil _ _,⟨.inl ⟨ep,bj⟩,abB.mpr ⟨ads,acv⟩,λe he=>by
     rw[aaK.mp he];exact kb.to λc ys hc=>by rw[aI (λz=>by rw[z,ha] at hc;cases hc)];exact hc⟩,rfl,rfl⟩,(by have:aah=16777216:=rfl;rw[this];simp),aS.cons fA aS.nil⟩)
   ·exact f.elim
  ·exact f.elim⟩
end L2
namespace L2
open PySem.W Hc.Dw
def B7 {w:abq}(d:aaM)(ds:Array DictEntry)(ep:Nat)(hd:(d==abF)=false) :
  MeetsIn prog w (Builtin.«dict.__len__» ⟨[.ref d],[]⟩) (λ_ R s=>gI s.heap d ds ep/\R (.ok (.ret (.int ds.size s.toks))) {s with toks:=s.toks+1}):=
 .of_wp λA R s ⟨⟨o,ho,hc,hdat⟩,h⟩=>by
  show aaW _ _ (dictSize d >>= _) _ _ s;refine aaa (aaa (abm ho hdat (aae ?_)));refine aaa (wpAny_pendingCount_other hd ?_);refine wpAny_ret_mkInt ?_;exact h
section
variable {w:abq}{A:aba}
theorem MK {d:aaM}(hd:(d==abF)=false)(hm:gI s.heap d ds ep)(aaf:(ds.size:Int)<2 ^ 63)(h:Q (.int ds.size (s.toks+1)) {s with toks:=s.toks+1+1}):aaW (aa1 prog w) A (call (.builtin "len") [.ref d]) Q E s:=by
 refine ad9 kind_len plain_len entry_len (args_len1 _) ?_;refine aaa (m:=callSpecial? (.ref d) _) (aa6 hm.ty PySem.F.slot_dict_len
  (aep PySem.F.slot_dict_len hm.ty PySem.F.entry_dict_len (PySem.F.args_dict_len_1 _) (B7 d ds ep hd) ⟨hm,?_⟩))
 refine aaa (abt (aae ?_));refine aaa (wpAny_letGo ?_);rw[hZ (by lia)];rw[hZ (by lia)];exact aaa (wpAny_mkInt (aae ⟨_,rfl,h⟩))
end
def O6:List V->Hp->VK->Prop:=λxs H Q=>∃a ep es,xs=[.ref a]/\H a=some (DN a ep es)/\es.length<=aah/\Q (.int es.length) H
theorem wH:d5 X (.builtin "len") O6:=by
 intro pins s σ H xs us Q I r h;obtain⟨a,ep,es,rfl,ha,hz,q⟩:=h;obtain⟨u,rfl,rx⟩:=gX r;cases rx;obtain⟨lo,ds,rd,n,_⟩:=I.rawD ha;rw[ack] at hz;refine MK lo rd (by lia) ⟨.int es.length,H,I.kept λb o e=>e,⟨s.toks+1,by rw[n]⟩,q⟩
noncomputable def D8:List U->R U:=λus=>match us with
 | [.dct ks _]=>if mQ ks=true then .ok (.int ks.length) else .stk
 |_=>.stk
theorem Ai:lW K O6 .S D8:=λA H vs us z Q h mu e q=>by
 unfold D8 at e;split at e
 ·split at e
  ·rename_i wk;cases e;obtain⟨v,rfl,p⟩:=h.one;obtain⟨a,xs,rfl,d,l,r⟩:=p;obtain⟨es,ep,h1,kt,rfl,rfl⟩:=pq wk d;have le:es.length<=aah:=by have:=r.length;rw[aab] at this;lia
   exact⟨a,ep,es,rfl,h1,le,q _ H (aJ.refl _) (by rw[aab];exact (show Rp K H A _ _ from cU))⟩
  ·cases e
 ·cases e
end L2
namespace L2
section
variable {w:abq}{A:aba}
theorem Aj {aD:Array aak}(hh:A.handled=none)(ht:s.heap.IsList t aD)(hi:ae_ aD.toList ns)(hb:aD.size+1<scanBound)(q:∀(h':acP) (tk:Nat) (S:Int->Bool),h'.SetOf (intKind prog w) s.heap.objs.size S (j0 ns).length->(∀b o,s.heap.get? b=some o->h'.get? b=some o)->Q (.ref s.heap.objs.size) {s with heap:=h',toks:=tk}) :
  aaW (aa1 prog w) A (call (.type "set") [.ref t]) Q E s:=by
 have sz:=by have:=hi.length;simpa using this
 refine Hc.Sx.set_call (λs'=>∃h' tk S,s'={s with heap:=h',toks:=tk}/\h'.SetOf (intKind prog w) s.heap.objs.size S (j0 ns).length/\∀b o,s.heap.get? b=some o->h'.get? b=some o) ?_ λs' ⟨h',tk,S,e,h1,h2⟩=>by subst e;exact q h' tk S h1 h2
 obtain⟨ot,gt,ct,nt,dt⟩:=ht;obtain⟨oc,od,oda,os⟩:=ot;subst ct;subst dt;have gt':(s.heap.push (Hc.Sx.newS w)).get? t=some _:=aad _ gt;have gS:(s.heap.push _).get? _=some (Hc.Sx.newS w):=aam _ rfl;have n1:=PySem.F.sub_list_set;have n2:=PySem.F.sub_list_frozenset;have Zj:(s.heap.push _).IsList t aD:=⟨_,gt',rfl,nt,rfl⟩;unfold Builtin.«set.__init__» noKeywords Builtin.Frozenset.updateFrom;generalize ePI:pyIter=PI;wp_walk;subst ePI;refine adN Zj ?_;refine aaa (wpAny_runValue ?_);have lt:=aaA gt;have h3:A.in1.in1.in1.handled=none:=by simp[hh]
 have ne1:t≠(s.heap.push (Hc.Sx.newS w)).objs.size:=by rw[ab0];exact aaN (acL lt)
 have ni:s.heap.objs.size∉[(s.heap.push (Hc.Sx.newS w)).objs.size,t]:=by
  rw[ab0];simp only[aaw,ads,or_false,not_or];exact⟨aaN (aed _),acX lt⟩
 have vl:=λi v hv=>IntsAre.int_at hi i v (by rw[aa5];exact hv);refine codeAny_set_update_loopS ((Walks.list h3 _ t ne1 aD).toS) _ ni _ vl hb _ 0 _ (by omega) (acM _) ⟨⟨_,aam _ rfl,rfl,rfl⟩,Zj.push _⟩ ?z0 ?zR
 case z0=>exact SetOf_congr ((setObjOf_fresh _).setOf (aad _ gS) (by unfold scanBound;lia)) (λ_=>rfl) rfl
 case zR=>
  intro s' hm Py;obtain⟨h',g',d',NG,o'⟩:=s';have eg:=hm.gens;have ed:=hm.drawn;have eo2:=hm.os;subst eg;subst ed;subst eo2;refine aae ?_;rw[sz,nA] at Py;refine aae ⟨_,rfl,rfl,h',NG,_,rfl,Py,λb o e=>?_⟩;have Zk:=aaA e;refine hm.heap b o ?_ (aad _ (aad _ e));rw[ab0];simp only[aaw,ads,or_false,not_or];exact⟨aaN Zk,aaN (acL Zk)⟩
end
section
variable {e:aca}{u5 p1:Pos}{b1:Bool}{ga:Ev->R (List U×Ev)}
def Jz (K:aai):List V->Hp->VK->Prop:=λxs H Q=>∃(p:aaM) (ns:List Int),xs=[.ref p]/\fX K H p (ns.map V.int)/\ns.length<64/\∀(l:aaM) (S:Int->Bool),H l=none->Q (.ref l) (cT H l (.set S (j0 ns).length))
theorem B8 (hc:X.calm=true):d5 X (.type "set") (Jz X.K):=by
 intro pins s σ H xs us Q I r h;obtain⟨p,ns,rfl,hq,h64,q⟩:=h;obtain⟨u,rfl,rx⟩:=gX r;cases rx;obtain⟨aD,rv,pl,hz⟩:=I.list hq;have hI:=jt rv;have hl:=hI.length;refine Aj (I.ok.hd hc) pl.isList hI (by unfold scanBound;rw[aax];lia) λh' tk S hS hk=>?_;exact⟨.ref _,_,I.laid (o:=.set S _) hk (aao _) hS,rfl,q _ S (I.hok.fresh (aao _))⟩
noncomputable def gc:List U->R U:=λus=>match us with
 | [.lst xs]=>match dz xs with
  |some ns=>if ns.length<64 then .ok (.int (j0 ns).length) else .stk
  |none=>.stk
 |_=>.stk
theorem Ak:lW K (λvs H Q=>Jz K vs H λx H2=>N2 [x] H2 Q) .S gc:=λA H vs us z Q h mu e q=>by
 unfold gc at e;split at e
 ·split at e
  ·rename_i ns hb;split at e
   ·rename_i hl;cases e;obtain⟨v,rfl,p⟩:=h.one;obtain⟨a,ys,rfl,h1,l1,r1⟩:=p;rw[gH hb] at r1;rw[r1.toI] at h1;have:=HB ns;exact⟨a,ns,rfl,fX.of h1,hl,λl S hn=>⟨l,S,_,rfl,bj,by lia,q _ _ (cF hn _) (show Rp K _ A _ _ from cU)⟩⟩
   ·cases e
  ·cases e
 ·cases e
def B9 (hc:X.calm=true)(ha:DA X G [e] b1 true ga)(hg:Gl X "len")(hm:X.mg "len"=none)(VN:Gl X "set")(hm2:X.mg "set"=none)
  (he:aaC [e] X.env=(false,adB e X.env)::aaC [] X.env:=by rfl) (pY:(acq u5 (aaC [] X.env)).any (·.1)=false:=by rfl)
  (Gg:aaC [.Call (.Name "set" p2) [e] [] u5] X.env=(false,adB (.Call (.Name "set" p2) [e] [] u5) X.env)::aaC [] X.env:=by rfl) (u7:(acq pos (aaC [] X.env)).any (·.1)=false:=by rfl) :
  DE X G (.Call (.Name "len" p1) [.Call (.Name "set" p2) [e] [] u5] [] pos) b1 .S (gq gc ga):=⟨(j_ Fe hg hm eN (fQ (gR (B8 hc) VN hm2 QZ ha.un (by decide) (by decide) he pY) jr Gg) (by decide) (by decide) Gg u7).to λ_ _ _ h=>xo (Ak) h⟩
end
end L2
noncomputable section
namespace Hc
open PySem L2
noncomputable abbrev ml:Gm:=⟨[false,false,false],false,λ_=>False⟩
noncomputable def eU:Ev->SR:=(aH (aY 0 (gq E5 (af (ae 0) ao)))
 (aH (aY 1 (gq E5 (af (ae 1) ao)))
 (aH (fi (gB (bb (mj not) (ae 1) (gC (.int 0))))
 (aH (aY 2 (bb vo (ae 0) (ae 1)))
 (aH (aY 0 (ae 1))
 (aY 1 (ae 2)))) 1000000000000)
 (bT (ae 0)))))
noncomputable def bD:List U->R U:=dF .S 3 eU
noncomputable abbrev ML:Gm:=⟨[false,false,false],false,λ_=>False⟩
noncomputable def yg:Ev->SR:=(aH (aY 2 (eR 2 bD (af (ae 0) (af (ae 1) ao))))
 (aH (oO (gB (bb Ug (ae 1) (gC (.int 0)))) (aY 2 (V4 L8 (ae 2))) cQ)
 (bT (eC (af (bb f7 (ae 0) (ae 2)) (af (bb f7 (ae 1) (ae 2)) ao))))))
noncomputable def nR:List U->R U:=dF .S 3 yg
noncomputable abbrev qY:Gm:=⟨[false,false,false],false,λ_=>False⟩
noncomputable def fI:Ev->SR:=(aY 1 (bb f7 (bb d7 (ae 1) (bb rK (ae 2) (gC (.int 1)))) (eR 2 bD (af (ae 1) (af (bb rK (ae 2) (gC (.int 1))) ao)))))
noncomputable def gA:Ev->SR:=(aH (aY 1 (gC (.int 1)))
 (aH (fm (fj (ae 0)) (bB 2)
 fI)
 (bT (ae 1))))
noncomputable def dA:List U->R U:=dF .S 3 gA
noncomputable abbrev B_:Gm:=⟨[false,false],false,λ_=>False⟩
noncomputable def jK:Ev->SR:=(bT (gq c_ (af (f6 (fj (ae 1)) [none,some 0] (bB 0) cR (bb rK (ae 1) (ae 0))) ao)))
noncomputable def eV:List U->R U:=dF .S 2 jK
noncomputable abbrev RD:Gm:=⟨[false,false],false,λ_=>False⟩
noncomputable def Ca:Ev->SR:=(bT (eR 2 eV (af (ae 0) (af (ae 1) ao))))
noncomputable def jL:List U->R U:=dF .S 2 Ca
noncomputable abbrev RE:Gm:=⟨[false],false,λ_=>False⟩
noncomputable def Cb:Ev->SR:=(bT (gq c_ (af (f6 (fB (af (gq iR (af (ae 0) ao)) ao)) [none,some 0] (bB 0) cR (Jq (ae 1) (af (ae 0) ao))) ao)))
noncomputable def uq:List U->R U:=dF .S 1 Cb
noncomputable abbrev FP:Gm:=⟨[false,true,false],false,λ_=>False⟩
noncomputable def pG:Ev->SR:=(aH (aY 1 QR)
 (aH (fm (fj (ae 0)) (bB 2)
 (g8 1 (bb cB (kn 1 (ae 2) (gC (.int 0))) (gC (.int 1))) (ae 2)))
 (bT (ae 1))))
noncomputable def cC:List U->R U:=dF .O 3 pG
noncomputable abbrev JA:Gm:=⟨[false,false,true,false,false,false,false,false],false,λ_=>False⟩
noncomputable def pH:Ev->SR:=(aH (aY 7 (eR 2 eV (af (ae 5) (af (ae 3) ao))))
 (g8 2 (bb cB (kn 2 (ae 7) (gC (.int 0))) (bb d7 (ae 6) (ae 4))) (ae 7)))
noncomputable def pJ:Ev->SR:=(fm (OY (ae 0)) (du 2 (aM (bB 5) (aM (bB 6) dD)))
 pH)
noncomputable def ur:Ev->SR:=(aH (aY 2 QR)
 (aH (fm (OY (eR 1 cC (af (ae 1) ao))) (du 2 (aM (bB 3) (aM (bB 4) dD)))
 pJ)
 (bT (ae 2))))
noncomputable def nS:List U->R U:=dF .O 8 ur
noncomputable abbrev Cc:Gm:=⟨[false,false,false,true,false,false,false],false,λ_=>False⟩
noncomputable def iL:Ev->SR:=(g8 3 (bb d7 (bb rK (ae 5) (gC (.int 0))) (bb f7 (ae 2) (bb rK (ae 5) (gC (.int 1))))) (ae 4))
noncomputable def mq:Ev->SR:=(aH (aY 2 (eR 1 dA (af (f6 (fj (ae 0)) [none,none] (du 2 (aM (bB 0) (aM (bB 1) dD))) cR (ae 1)) ao)))
 (aH (aY 3 QR)
 (aH (fm (fj (ae 0)) (du 2 (aM (bB 4) (aM (bB 5) dD)))
 iL)
 (BO 3 (aH (aY 6 (eR 2 nS (af (ae 3) (af (ae 1) ao))))
 (bT (f6 (fj (gq j3 (af (ae 6) ao))) [none,some 6,some 2,some 1] (bB 0) cR (eC (af (ae 0) (af (eR 2 nR (af (bb zC (ae 1) (ae 0)) (af (bb d7 (ae 2) (gq iR (af (ae 3) ao))) ao))) ao))))))))))
noncomputable def eW:List U->R U:=dF .O 7 mq
noncomputable abbrev Cd:Gm:=⟨[false,false,false,true,false],false,λ_=>False⟩
noncomputable def mw:Ev->SR:=(aH (aY 1 (gC (.int 0)))
 (aH (fm (Xp (ae 0)) (bB 2)
 (aY 1 (eR 2 bD (af (ae 1) (af (ae 2) ao)))))
 (aH (aY 3 QR)
 (aH (fm (OY (ae 0)) (du 2 (aM (bB 4) (aM (bB 2) dD)))
 (g8 3 (bb f7 (ae 2) (ae 1)) (ae 4)))
 (bT (ae 3))))))
noncomputable def eX:List U->R U:=dF .O 5 mw
noncomputable abbrev RF:Gm:=⟨[false,false],false,λ_=>False⟩
noncomputable def Ce:Ev->SR:=(bT (bb (D3 id) (eR 1 eX (af (eR 1 cC (af (ae 0) ao)) ao)) (eR 1 eX (af (eR 1 cC (af (ae 1) ao)) ao))))
noncomputable def yi:List U->R U:=dF .S 2 Ce
noncomputable abbrev JB:Gm:=⟨[false,false,true,false,false,false,false,false,false,true],false,λ_=>False⟩
noncomputable def yj:Ev->SR:=(aH (aY 7 (eR 2 jL (af (ae 3) (af (ae 5) ao))))
 (g8 2 (bb cB (kn 2 (ae 7) (gC (.int 0))) (bb d7 (ae 4) (ae 6))) (ae 7)))
noncomputable def rT:Ev->SR:=(fm (OY (eR 1 cC (af (ae 1) ao))) (du 2 (aM (bB 5) (aM (bB 6) dD)))
 yj)
noncomputable def yk:Ev->SR:=(m9 (gM "list" 9 fR (af (bb Aa (dI (af (ae 7) ao)) (bb zC (ae 8) (ae 7))) ao)))
noncomputable def uu:Ev->SR:=(aH (aY 2 QR)
 (aH (fm (OY (eR 1 cC (af (ae 0) ao))) (du 2 (aM (bB 3) (aM (bB 4) dD)))
 rT)
 (BO 2 (aH (aY 8 (eR 1 eX (af (ae 2) ao)))
 (aH (oO (gB (bb NU (DY (ae 8)) (gC (.int 24)))) (λ_=>.exc "TooMany" .non) cQ)
 (aH (aY 9 (dI ao))
 (aH (fm (fj (gq j3 (af (ae 8) ao))) (bB 7)
 yk)
 (bT (gq c_ (af (ae 9) ao))))))))))
noncomputable def my:List U->R U:=dF .S 10 uu
noncomputable abbrev Am:Gm:=⟨[false,false,false],false,λ_=>False⟩
noncomputable def gJ:Ev->SR:=(oO (zh (gB (gq Bv (af (f6 (UR (ae 1)) [none,some 1,some 2] (bB 0) cR (bb (BE id) (eR 2 jL (af (ae 2) (af (ae 0) ao))) (ae 1))) ao)))) (bT (gC (.bl false))) cQ)
noncomputable def kA:Ev->SR:=(aH (aY 1 (eR 1 cC (af (ae 0) ao)))
 (aH (oO (gB (bb (mj not) (jJ true (ae 1)) (jJ false (ae 1)))) (bT (gC (.bl false))) cQ)
 (aH (fm (UR (ae 1)) (bB 2)
 gJ)
 (bT (gC (.bl true))))))
noncomputable def br:List U->R U:=dF .S 3 kA
noncomputable abbrev wI:Gm:=⟨[false,false,false,true,false,true,false,false,false],false,λ_=>False⟩
noncomputable def ik:Ev->SR:=(aH (aY 8 (eR 2 jL (af (ae 6) (af (ae 7) ao))))
 (aH (oO (gB (bb (BE not) (ae 8) (ae 3))) (aH (g8 3 (gC (.bl true)) (ae 8))
 (m9 (gM "list" 5 rM (af (ae 8) ao)))) cQ)
 (oO (gB (bb NU (gq D8 (af (ae 3) ao)) (gC (.int 120)))) (λ_=>.exc "TooMany" .non) cQ)))
noncomputable def ip:Ev->SR:=(fm (fj (ae 1)) (bB 7)
 ik)
noncomputable def kW:Ev->SR:=(aH (aY 2 (vY (af (ae 0) ao)))
 (aH (aY 3 (Jy (ae 2)))
 (aH (aY 4 (dI (af (ae 2) ao)))
 (aH (fi (gB (bb NU (gq iR (af (ae 4) ao)) (gC (.int 0))))
 (aH (aY 5 (dI ao))
 (aH (fm (fj (ae 4)) (bB 6)
 ip)
 (sQ 4 5))) 1000)
 (bT (gq j3 (af (ae 3) ao)))))))
noncomputable def dW:List U->R U:=dF .O 9 kW
noncomputable abbrev An:Gm:=⟨[false,false,false,true,false,false,false,false],false,λ_=>False⟩
noncomputable def kC:Ev->SR:=(aH (aY 3 (zy (af (ae 0) ao)))
 (aH (fm (Fq (af (ae 1) (af (ae 2) ao))) (du 2 (aM (bB 4) (aM (bB 5) dD)))
 (fm (Fq (af (ae 4) (af (bb rK (ae 1) (ae 5)) ao))) (du 2 (aM (bB 6) (aM (bB 7) dD)))
 (vX 3 (ae 7) (ae 6))))
 (bT (gq c_ (af (ae 3) ao)))))
noncomputable def dM:List U->R U:=dF .S 8 kC
noncomputable abbrev Cf:Gm:=⟨[false,false,false],false,λ_=>False⟩
noncomputable def mB:Ev->SR:=(aH (aY 2 (vY (af (gq iR (af (ae 1) ao)) ao)))
 (bT (gq c_ (af (f6 (fj (ae 2)) [none,some 0,some 1,some 2] (bB 0) cR (eR 3 dM (af (ae 1) (af (ae 2) (af (bb cB (lY ki (ae 3) (bY (ae 0)) cW) (lY ki (ae 3) cW (bY (ae 0)))) ao))))) ao))))
noncomputable def eY:List U->R U:=dF .S 3 mB
noncomputable abbrev U3:Gm:=⟨[false,false],false,λ_=>False⟩
noncomputable def JC:Ev->SR:=(bT (eR 2 eY (af (ae 0) (af (gq c_ (af (f6 (fj (ae 1)) [none] (bB 0) cR (eC (af (ae 0) ao))) ao)) ao))))
noncomputable def Ao:List U->R U:=dF .S 2 JC
noncomputable abbrev kD:Gm:=⟨[false,true,false,false],false,λ_=>False⟩
noncomputable def ft:Nat->Ev->SR
 |0=>λ_=>.stk
 |n+1=>let r_arrangements:=dF .O 4 (ft n)
  (aH (oO (gB (bb (mj id) (gq iR (af (ae 0) ao)) (gC (.int 0)))) (bT (dI (af (eC ao) ao))) cQ)
 (aH (aY 1 (dI ao))
 (aH (fm (fj (ae 0)) (bB 2)
 (aH (aY 3 (f6 (fj (ae 0)) [none,some 2] (bB 0) (gB (bb (mj not) (ae 0) (ae 1))) (ae 0)))
 (m9 (gM "list" 1 fR (af (f6 (fj (eR 1 r_arrangements (af (ae 3) ao))) [none,some 2] (bB 0) cR (bb cB (eC (af (ae 1) ao)) (ae 0))) ao)))))
 (bT (ae 1)))))
noncomputable def iq (n:Nat):List U->R U:=dF .O 4 (ft n)
noncomputable abbrev Cg:Gm:=⟨[false,false],false,λ_=>False⟩
noncomputable def mC:Ev->SR:=(aH (oO (gB (bb NU (gq iR (af (ae 1) ao)) (gC (.int 4)))) (λ_=>.exc "TooMany" .non) cQ)
 (bT (gq c_ (af (f6 (fj (eR 1 (iq 20) (af (zy (af (gq iR (af (ae 1) ao)) ao)) ao))) [none,some 0,some 1] (bB 0) cR (eR 3 dM (af (ae 1) (af (ae 2) (af (ae 0) ao))))) ao))))
noncomputable def fJ:List U->R U:=dF .S 2 mC
noncomputable abbrev uv:Gm:=⟨[false,false],false,λ_=>False⟩
noncomputable def fu:Ev->SR:=(aH (oO (gB (bb Ug (ae 1) (gq iR (af (ae 0) ao)))) (bT (bb rK (ae 0) (ae 1))) cQ)
 (bT (gC (.int 0))))
noncomputable def dN:List U->R U:=dF .S 2 fu
noncomputable abbrev ym:Gm:=⟨[false,false,false],false,λ_=>False⟩
noncomputable def gK:Ev->SR:=(aH (aY 2 (eR 2 dN (af (ae 0) (af (ae 1) ao))))
 (aH (oO (gB (bb Xc (ae 2) (bb L7 (gC (.int 10)) (gC (.int 18))))) (bT (dI (af (bb E4 (ae 2) (bb L7 (gC (.int 10)) (gC (.int 18)))) (af (gC (.bl true)) ao)))) cQ)
 (bT (dI (af (bb vo (ae 2) (gC (.int 2147483647))) (af (gC (.bl false)) ao))))))
noncomputable def dX:List U->R U:=dF .O 3 gK
noncomputable abbrev Ap:Gm:=⟨[true,false,false,false],true,λ_=>False⟩
noncomputable def iM:Ev->SR:=(aH (oO (gB (bb rK (ae 0) (gC (.int 1)))) (aH (aY 2 (bb vo (bb rK (ae 0) (gC (.int 0))) (ae 1)))
 (aH (vX 0 (bb f7 (bb rK (ae 0) (gC (.int 0))) (ae 1)) (gC (.int 0)))
 (bT (ae 2)))) cQ)
 (aH (vX 0 (bb vo (bb cB (bb d7 (bb rK (ae 0) (gC (.int 0))) (gC (.int 48271))) (gC (.int 29))) (gC (.int 2147483647))) (gC (.int 0)))
 (aH (aY 3 (bb vo (bb cB (bb cB (bb d7 (bb rK (ae 0) (gC (.int 0))) (bb rK (ae 0) (gC (.int 0)))) (bb d7 (gC (.int 39373)) (bb rK (ae 0) (gC (.int 0))))) (gC (.int 7))) (gC (.int 2147483629))))
 (aH (aY 3 (bb vo (bb cB (bb d7 (ae 3) (ae 3)) (bb d7 (gC (.int 16807)) (ae 3))) (gC (.int 2147483587))))
 (bT (bb vo (bb f7 (ae 3) (gC (.int 8))) (ae 1)))))))
noncomputable def aG:List U->R (U×U):=zo 4 iM
noncomputable abbrev jM:Gm:=⟨[true,false,true],true,λ_=>False⟩
noncomputable def jN:Ev->SR:=(aH (aY 2 (zy (af (ae 1) ao)))
 (bT (gq c_ (af (zj jM (fB (af (ae 1) ao)) [none,some 2,some 0] (bB 0) cR (gM "list" 1 o_ (af (m7 2 2 aG (af (gq iR (af (ae 1) ao)) ao)) ao))) ao))))
noncomputable def bA:List U->R (U×U):=zo 3 jN
noncomputable abbrev ir:Gm:=⟨[true,false,false,false,false,false,false,false,false,true],true,λ_=>False⟩
noncomputable def cE:Ev->SR:=(aH (aY 2 (vY (af (ae 1) ao)))
 (aH (aY 3 (m7 2 0 aG (af (gC (.int 6)) ao)))
 (aH (oO (gB (bb (mj id) (ae 3) (gC (.int 0)))) (bT (gq c_ (af (f6 (fB (af (ae 1) ao)) [none,some 2] (bB 0) cR (bb cB (lY ki (ae 1) (bY (ae 0)) cW) (lY ki (ae 1) cW (bY (ae 0))))) ao))) cQ)
 (aH (oO (gB (bb (mj id) (ae 3) (gC (.int 1)))) (aH (aY 4 (m7 2 0 bA (af (ae 1) ao)))
 (bT (eC (af (ae 2) (af (ae 4) ao))))) cQ)
 (aH (oO (gB (bb (mj id) (ae 3) (gC (.int 2)))) (aH (aY 5 (bb f7 (ae 1) (gC (.int 2))))
 (bT (eC (af (ae 2) (af (bb cB (bb cB (lY ki (ae 2) (bY (ae 5)) (bY (bb d7 (gC (.int 2)) (ae 5)))) (lY ki (ae 2) cW (bY (ae 5)))) (lY ki (ae 2) (bY (bb d7 (gC (.int 2)) (ae 5))) cW)) ao))))) cQ)
 (aH (oO (gB (bb (mj id) (ae 3) (gC (.int 3)))) (aH (aY 6 (dI (af (eC ao) ao)))
 (aH (aY 7 (gq s_ (af (ae 1) (af (bb cB (gC (.int 2)) (m7 2 0 aG (af (gC (.int 3)) ao))) ao))))
 (aH (fm (fB (af (ae 7) ao)) (bB 8)
 (aH (aY 9 (dI ao))
 (aH (fm (fj (ae 6)) (bB 4)
 (m9 (gM "list" 9 fR (af (f6 (fB (af (bb cB (ae 8) (gC (.int 1))) ao)) [none,some 4,some 8] (bB 0) cR (bb cB (bb cB (lY ki (ae 1) cW (bY (ae 0))) (eC (af (ae 2) ao))) (lY ki (ae 1) (bY (ae 0)) cW))) ao))))
 (sQ 6 9))))
 (bT (gq c_ (af (f6 (fj (ae 6)) [none,some 2,some 7] (bB 0) cR (bb cB (ae 0) (lY ki (ae 1) (bY (ae 2)) cW))) ao)))))) cQ)
 (bT (gq c_ (af (zj ir (fB (af (bb cB (gC (.int 1)) (m7 2 0 aG (af (gC (.int 4)) ao))) ao)) [none,some 0,some 1] (bB 0) cR (m7 2 1 bA (af (ae 2) ao))) ao)))))))))
noncomputable def aQ:List U->R (U×U):=zo 10 cE
noncomputable abbrev iu:Gm:=⟨[true,false,false],true,λ_=>False⟩
noncomputable def jO:Ev->SR:=(aH (aY 2 (m7 2 0 aG (af (gC (.int 4)) ao)))
 (aH (oO (gB (bb Ug (ae 2) (gC (.int 2)))) (bT (gq c_ (af (zj iu (fB (af (ae 1) ao)) [none,some 0] (bB 0) cR (m7 2 1 aG (af (gC (.int 2)) ao))) ao))) cQ)
 (bT (gq c_ (af (zj iu (fB (af (ae 1) ao)) [none,some 0,some 2] (bB 0) cR (m7 2 1 aG (af (bb rK (dI (af (gC (.int 3)) (af (gC (.int 10)) ao))) (bb E4 (ae 2) (gC (.int 2)))) ao))) ao)))))
noncomputable def eZ:List U->R (U×U):=zo 3 jO
noncomputable abbrev yn:Gm:=⟨[false,false],false,λ_=>False⟩
noncomputable def gL:Ev->SR:=(aH (aY 1 (gC .non))
 (aH (zI 1 2 my (af (ae 0) (af (ae 0) ao)))
 (bT (Hg (bb (Bt not) (ae 1) (gC .non)) (eR 2 yi (af (ae 1) (af (ae 0) ao)))))))
noncomputable def dY:List U->R U:=dF .S 2 gL
noncomputable abbrev pK:Gm:=⟨[false,false,false,false],false,λ_=>False⟩
noncomputable def fw:Ev->SR:=(oO (gB (bb (L_ not) (bb U2 (gq uj (af (eR 2 eW (af (dI (af (eC (af (ae 2) (af (eC (af (gC (.int 1)) (af (gC (.int 1)) ao))) ao))) ao)) (af (ae 0) ao))) ao)) (ae 1)) (ae 3))) (bT (gC (.bl false))) cQ)
noncomputable def fK:Ev->SR:=(aH (fm (fj (eR 2 eW (af (dI (af (eC (af (ae 1) (af (eC (af (gC (.int 1)) (af (gC (.int 1)) ao))) ao))) ao)) (af (ae 0) ao)))) (du 2 (aM (bB 2) (aM (bB 3) dD)))
 fw)
 (bT (bb (L_ id) (f6 (fj (ae 0)) [none,some 0] (bB 0) (gB (bb (K_ not) (eR 1 uq (af (ae 0) ao)) (ae 1))) (ae 0)) (dI ao))))
noncomputable def bH:List U->R U:=dF .S 4 fK
noncomputable abbrev yo:Gm:=⟨[false,false,false],false,λ_=>False⟩
noncomputable def gN:Ev->SR:=(aH (aY 2 (gC .non))
 (aH (zI 2 2 dW (af (ae 0) (af (ae 1) ao)))
 (aH (oO (gB (bb (Bt id) (ae 2) (gC .non))) (bT (gC (.bl true))) cQ)
 (aH (oO (T_ (gB (bb (L_ not) (f6 (fj (ae 1)) [none,some 2] (bB 0) (gB (bb (K_ not) (ae 0) (ae 1))) (ae 0)) (dI ao))) (gB (bb (L_ not) (eR 2 dW (af (ae 0) (af (bb cB (lY ki (ae 2) cW (bY (gC (.int 3)))) (ae 1)) ao))) (ae 2)))) (bT (gC (.bl false))) cQ)
 (bT (W4 (bb NU (gq iR (af (ae 2) ao)) (gC (.int 24))) (eR 1 br (af (gq c_ (af (ae 2) ao)) ao))))))))
noncomputable def fx:List U->R U:=dF .S 3 gN
noncomputable abbrev JD:Gm:=⟨[false,false,true,false,false,false,false,false,false,false,false],false,λ_=>False⟩
noncomputable def pL:Ev->SR:=(oO (T_ (zh (gB (eR 1 br (af (ae 10) ao)))) (zh (gB (eR 2 bH (af (ae 10) (af (ae 5) ao)))))) (bT (gC (.bl false))) cQ)
noncomputable def yp:Ev->SR:=(aH (aY 2 (eR 2 dX (af (ae 0) (af (ae 1) ao))))
 (aH (aY 3 (bb cB (gC (.int 1)) (m7 2 2 aG (af (gC (.int 6)) ao))))
 (aH (aY 4 (m7 2 2 aQ (af (ae 3) ao)))
 (aH (aY 5 (m7 2 2 eZ (af (ae 3) ao)))
 (aH (aY 6 (bb (mj id) (gq gc (af (f6 (fj (ae 4)) [none,some 4] (bB 0) cR (Jt (ae 1) (af (ae 0) ao))) ao)) (gC (.int 1))))
 (aH (oO (gB (bb (L_ not) (eR 1 br (af (ae 4) ao)) (Hg (ae 6) (eR 1 dY (af (ae 4) ao))))) (bT (gC (.bl false))) cQ)
 (aH (oO (Hd (gB (eR 1 br (af (ae 4) ao))) (zh (gB (eR 2 bH (af (ae 4) (af (ae 5) ao)))))) (bT (gC (.bl false))) cQ)
 (aH (aY 7 (m7 2 2 bA (af (ae 3) ao)))
 (aH (aY 8 (bb cB (gC (.int 1)) (m7 2 2 aG (af (ae 3) ao))))
 (aH (aY 9 (gq c_ (af (f6 (fB (af (gq s_ (af (gC (.int 4)) (af (bb f7 (ae 3) (ae 8)) ao))) ao)) [none,some 7,some 8] (bB 0) cR (lY ki (ae 1) (bY (bb d7 (ae 0) (ae 2))) (bY (bb cB (bb d7 (ae 0) (ae 2)) (ae 2))))) ao)))
 (aH (fm (fj (dI (af (eR 2 Ao (af (ae 3) (af (lY ki (ae 7) cW (bY (ae 8))) ao))) (af (eR 2 eY (af (ae 3) (af (ae 9) ao))) (af (eR 2 fJ (af (ae 3) (af (ae 9) ao))) ao))))) (bB 10)
 pL)
 (oO (zh (gB (eR 2 fx (af (ae 3) (af (zj JD (fB (af (bb cB (gC (.int 1)) (m7 2 2 aG (af (gC (.int 2)) ao))) ao)) [none,some 2,some 3] (bB 0) cR (m7 2 1 bA (af (ae 2) ao))) ao))))) (bT (gC (.bl false))) cQ))))))))))))
noncomputable def JE:Ev->SR:=(aH (fm (fB (af (gq CZ (af (gC (.int 1)) (af (gq s_ (af (gq iR (af (ae 0) ao)) (af (gC (.int 3)) ao))) ao))) ao)) (bB 1)
 yp)
 (bT (gC (.bl true))))
noncomputable def Aq:List U->R U:=dF .S 11 JE
end Hc
end
namespace Hc
open L2
noncomputable abbrev fL:aeO:=top 4
noncomputable abbrev Ci:aeO:=top 5
noncomputable abbrev iV:aeO:=top 6
noncomputable abbrev nU:aeO:=top 8
noncomputable abbrev JF:aeO:=top 9
noncomputable abbrev D9:aeO:=top 10
noncomputable abbrev uw:aeO:=top 15
noncomputable abbrev yq:aeO:=top 16
noncomputable abbrev je:aeO:=top 17
noncomputable abbrev pM:aeO:=top 18
noncomputable abbrev JG:aeO:=top 19
noncomputable abbrev D_:aeO:=top 20
noncomputable abbrev kX:aeO:=top 21
noncomputable abbrev nV:aeO:=top 22
noncomputable abbrev mD:aeO:=top 23
noncomputable abbrev nW:aeO:=top 24
noncomputable abbrev MM:aeO:=top 25
noncomputable abbrev cN:aeO:=top 26
noncomputable abbrev nX:aeO:=top 27
noncomputable abbrev mE:aeO:=top 29
noncomputable abbrev pN:aeO:=top 30
noncomputable abbrev ux:aeO:=top 31
noncomputable abbrev kY:aeO:=top 32
noncomputable abbrev dO:aeO:=top 33
noncomputable abbrev nY:aeO:=top 34
noncomputable abbrev pO:aeO:=top 35
noncomputable abbrev gO:aeO:=top 36
noncomputable abbrev kZ:aeO:=top 37
noncomputable abbrev uy:aeO:=top 38
abbrev Bd (x:Str)(ps:List Str)(s:aeO):Prop:=∀(kV kN pm:aak) (an:Option aaM) (cA ct:aak) (us:List aak),us.length=ps.length->afJ (abP x x (dC s) (bI s) (ai s) .none kV kN pm an cA ct) ⟨us,[]⟩=pure (ps.zip us)
def nZ {P:List Str}{sc:afV}(a:sc.kind=.function:=by rfl)(b:sc.isCoroutine=false:=by rfl)(c:sc.isGenerator=false:=by rfl)(d:N.Nodup:=by decide+kernel)(e:N.take P.length=P:=by rfl)(f:∀x∈P,sc.names.lookup x=some .local\/sc.names.lookup x=some .cell:=by decide+kernel)(g:∀y∈sc.names,y.2≠.free:=by decide+kernel):aK N P sc:=⟨a,b,c,d,e,f,g⟩
def rm {A:aba}(r:dS k A)(h:j<=k:=by first|decide|lia):dS j A:=r.mono h
def bR:aK ["one","other","rest"] ["one","other"] (ai fL):=nZ
theorem lB:Bd "greatest_divisor" ["one","other"] fL:=λ_ _ _ _ _ _ us hl=>match us,hl with|[_,_],_=>rfl
def uz:aK ["top","bottom","divisor"] ["top","bottom"] (ai Ci):=nZ
theorem JH:Bd "ratio" ["top","bottom"] Ci:=λ_ _ _ _ _ _ us hl=>match us,hl with|[_,_],_=>rfl
def dZ:aK ["some","bottom","fraction"] ["some"] (ai iV):=nZ
theorem pP:Bd "common_bottom" ["some"] iV:=λ_ _ _ _ _ _ us hl=>match us,hl with|[_],_=>rfl
def Ar:aK ["row","places"] ["row","places"] (ai nU):=nZ
theorem As:Bd "cards_at" ["row","places"] nU:=λ_ _ _ _ _ _ us hl=>match us,hl with|[_,_],_=>rfl
def MN:aK ["one","other"] ["one","other"] (ai JF):=nZ
theorem MO:Bd "then" ["one","other"] JF:=λ_ _ _ _ _ _ us hl=>match us,hl with|[_,_],_=>rfl
def MP:aK ["order"] ["order"] (ai D9):=nZ
theorem MQ:Bd "back" ["order"] D9:=λ_ _ _ _ _ _ us hl=>match us,hl with|[_],_=>rfl
def mF:aK ["shuffle","often","order"] ["shuffle"] (ai uw):=nZ
theorem Cj:Bd "counted" ["shuffle"] uw:=λ_ _ _ _ _ _ us hl=>match us,hl with|[_],_=>rfl
def fM:aK ["weights","shuffle","gathered","order","often","row","weight","changed"] ["weights","shuffle"] (ai yq):=nZ
theorem FQ:Bd "spread" ["weights","shuffle"] yq:=λ_ _ _ _ _ _ us hl=>match us,hl with|[_,_],_=>rfl
def fc:aK ["mix","shuffle","bottom","weights","row","chance","gathered"] ["mix","shuffle"] (ai je):=nZ
theorem Au:Bd "shuffled" ["mix","shuffle"] je:=λ_ _ _ _ _ _ us hl=>match us,hl with|[_,_],_=>rfl
def dP:aK ["often","divisor","number","least","order"] ["often"] (ai pM):=nZ
theorem Av:Bd "lessened" ["often"] pM:=λ_ _ _ _ _ _ us hl=>match us,hl with|[_],_=>rfl
def MR:aK ["one","other"] ["one","other"] (ai JG):=nZ
theorem MS:Bd "same" ["one","other"] JG:=λ_ _ _ _ _ _ us hl=>match us,hl with|[_,_],_=>rfl
def cx:aK ["one","other","often","first","number","second","more","order","least","orders"] ["one","other"] (ai D_):=nZ
theorem Ea:Bd "both" ["one","other"] D_:=λ_ _ _ _ _ _ us hl=>match us,hl with|[_,_],_=>rfl
def jP:aK ["shuffle","often","one"] ["shuffle"] (ai kX):=nZ
theorem yr:Bd "is_closed" ["shuffle"] kX:=λ_ _ _ _ _ _ us hl=>match us,hl with|[_],_=>rfl
def bh:aK ["many","orders","start","met","fresh","further","reached","order","follower"] ["many","orders"] (ai nV):=nZ
theorem uA:Bd "spanned" ["many","orders"] nV:=λ_ _ _ _ _ _ us hl=>match us,hl with|[_,_],_=>rfl
def d4:aK ["many","piles","sources","order","pile","source","place","origin"] ["many","piles","sources"] (ai mD):=nZ
theorem yt:Bd "exchanged" ["many","piles","sources"] mD:=λ_ _ _ _ _ _ us hl=>match us,hl with|[_,_,_],_=>rfl
def qG:aK ["many","piles","numbers"] ["many","piles"] (ai nW):=nZ
theorem Aw:Bd "pile_cut" ["many","piles"] nW:=λ_ _ _ _ _ _ us hl=>match us,hl with|[_,_],_=>rfl
def RG:aK ["many","places"] ["many","places"] (ai MM):=nZ
theorem RH:Bd "cut" ["many","places"] MM:=λ_ _ _ _ _ _ us hl=>match us,hl with|[_,_],_=>rfl
def dB:aK ["numbers","told","number","rest"] ["numbers"] (ai cN):=nZ
theorem j4:Bd "arrangements" ["numbers"] cN:=λ_ _ _ _ _ _ us hl=>match us,hl with|[_],_=>rfl
def Ax:aK ["many","piles"] ["many","piles"] (ai nX):=nZ
theorem Ay:Bd "pile_mix" ["many","piles"] nX:=λ_ _ _ _ _ _ us hl=>match us,hl with|[_,_],_=>rfl
def qZ:aK ["script","k"] ["script","k"] (ai mE):=nZ
theorem q_:Bd "_law_cell_at" ["script","k"] mE:=λ_ _ _ _ _ _ us hl=>match us,hl with|[_,_],_=>rfl
def lH:aK ["script","k","cell"] ["script","k"] (ai pN):=nZ
theorem vx:Bd "_law_state" ["script","k"] pN:=λ_ _ _ _ _ _ us hl=>match us,hl with|[_,_],_=>rfl
def gP:aK ["state","many","found","mixed"] ["state","many"] (ai ux):=nZ
theorem yu:Bd "_law_take" ["state","many"] ux:=λ_ _ _ _ _ _ us hl=>match us,hl with|[_,_],_=>rfl
def lJ:aK ["state","many","left"] ["state","many"] (ai kY):=nZ
theorem vy:Bd "_law_order" ["state","many"] kY:=λ_ _ _ _ _ _ us hl=>match us,hl with|[_,_],_=>rfl
def bg:aK ["state","many","stays","way","order","half","some","size","k","longer"] ["state","many"] (ai dO):=nZ
theorem rf:Bd "_law_shuffle" ["state","many"] dO:=λ_ _ _ _ _ _ us hl=>match us,hl with|[_,_],_=>rfl
def qH:aK ["state","many","way"] ["state","many"] (ai nY):=nZ
theorem Az:Bd "_law_row" ["state","many"] nY:=λ_ _ _ _ _ _ us hl=>match us,hl with|[_,_],_=>rfl
def iW:aK ["shuffle","found"] ["shuffle"] (ai pO):=nZ
theorem vz:Bd "_law_twice" ["shuffle"] pO:=λ_ _ _ _ _ _ us hl=>match us,hl with|[_],_=>rfl
def fy:aK ["shuffle","row","end","chance"] ["shuffle","row"] (ai gO):=nZ
theorem n6:Bd "_law_lays_back" ["shuffle","row"] gO:=λ_ _ _ _ _ _ us hl=>match us,hl with|[_,_],_=>rfl
def iX:aK ["many","orders","found"] ["many","orders"] (ai kZ):=nZ
theorem vA:Bd "_law_spans" ["many","orders"] kZ:=λ_ _ _ _ _ _ us hl=>match us,hl with|[_,_],_=>rfl
def iw:aK ["script","k","state","many","shuffle","row","equal","places","size","piles","some"] ["script"] (ai uy):=nZ
structure Txt (mg:Str->Option aak):Prop where
 zkq:mg "abs"=none
 zpq:mg "all"=none
 zgq:mg "dict"=none
 zmq:mg "len"=none
 zhq:mg "list"=none
 zlq:mg "max"=none
 znq:mg "min"=none
 zfq:mg "range"=none
 ziq:mg "set"=none
 zdq:mg "sorted"=none
 zjq:mg "sum"=none
 zeq:mg "tuple"=none
 zoq:mg "zip"=none
 zcq:∃tk,mg "MOST_ORDERS"=some (.int 24 tk)
 zaq:∃tk,mg "MOST_PILES_MIXED"=some (.int 4 tk)
 zbq:∃tk,mg "MOST_SPANNED"=some (.int 120 tk)
end Hc
namespace Hc
open L2
structure Wg (K:aai)(mg:Str->Option aak)(C:aaM):Prop where
 cls:mg "TooMany"=some (.ref C)
 exc:PySem.W.excIn K C zF "ValueError.__new__"=true
 own:PySem.W.exmOne K (.ref C) (.ref C)=some true
section
variable (P:acC)(w:abq)(K:aai)(mg:Str->Option aak)(base:acP)(C:aaM)
def YQ:Prop:=∃(f:aaM) (fd:adA),mg "both"=some (.ref f)/\acb K (.ref f)=true/\j9 K fd ["one","other"] []/\iP P w K mg base (BH P w C) 3 f fd ["one","other"] (Wa K 2 C λus=>∃c u,my us=.exc c u)
def YR:Prop:=∃(f:aaM) (fd:adA),mg "spanned"=some (.ref f)/\acb K (.ref f)=true/\j9 K fd ["many","orders"] []/\iP P w K mg base (BH P w C) 3 f fd ["many","orders"] (Wa K 2 C λus=>∃c u,dW us=.exc c u)
end
section
variable {w:abq}{base:acP}{C:aaM}
theorem Ck (T:Txt mg)(XT:Wg K mg C)(CC:Fn P w K mg base "then" 2 ["one","other"] (j8 K 2 jL .S))(wY:Fn P w K mg base "counted" 1 ["shuffle"] (j8 K 1 cC .O))(CD:Fn P w K mg base "lessened" 2 ["often"] (j8 K 1 eX .O))(d:Df K mg "both" D_) :
  YQ P w K mg base C:=by
 obtain⟨iB,zcq⟩:=T.zcq;refine Df.fnX (N:=["one","other","often","first","number","second","more","order","least","orders"]) JB .S uu d cx Ea rfl (by decide) ?_;intro f cA A outer s0 H E hr;have hu:=hr.units;exact (ah (cH (h0:=λ_=>by decide) cx.nd jb)
 (ah (cg ada rfl (ic (aB wY (hr.mono (by first|decide|lia)) (aa (aj 0) ag))) (gu rfl (bo (az cx.nd) (bo (az cx.nd) eI)))
 (aq (cg ada rfl (ic (aB wY (hr.mono (by first|decide|lia)) (aa (aj 1) ag))) (gu rfl (bo (az cx.nd) (bo (az cx.nd) eI)))
 (ah (aO cx.nd (aB CC (hr.mono (by first|decide|lia)) (aa (aj 3) (aa (aj 5) ag))))
 (aq (iJ hu (aU bJ bK (nv hu (aj 7) aA) (aU eL dj (aj 4) (aj 6))) (aj 7)))))))
 (xO 2 (hi:=λ_=>by decide) (ah (aO cx.nd (aB CD (hr.mono (by first|decide|lia)) (aa (aj 2) ag)))
 (ah (dh (bS qb kj (DZ rfl (aj 8) T.zjq) (ke rfl zcq) (bN _)) (aq (zH XT.cls XT.exc hr.hd (fQ (N4 (w6 (v:=.int 24) rfl zcq ⟨_,rfl⟩)) jr) (λσ H Q h=>⟨24,rfl,by decide,by decide+kernel,λy=>h _ _ (show 1<=aah by decide) (λ_ _ e=>e)⟩) (λ_ z=>z))) bw)
 (ah (cH (h0:=λ_=>by decide) cx.nd (cV ag))
 (ah (cg ada rfl (cy (aZ (jd rfl hu) ky (by rfl) T.zdq i7 (aa (aj 8) ag))) (az cx.nd)
 (aq (kP (lX abV adb ade rO jD (aa (aU DX Ab (cV (aa (aj 7) ag)) (BD hu (aj 8) (aj 7))) ag)))))
 (aq (a_ (bE aT bQ (by rfl) T.zeq cf (aa (dH 9) ag)))))))))))
theorem vB (T:Txt mg)(XT:Wg K mg C)(CC:Fn P w K mg base "then" 2 ["one","other"] (j8 K 2 jL .S))(d:Df K mg "spanned" nV) :
  YR P w K mg base C:=by
 obtain⟨gD,zbq⟩:=T.zbq;refine Df.fnX (N:=["many","orders","start","met","fresh","further","reached","order","follower"]) wI .O kW d bh uA rfl (by decide) ?_;intro f cA A outer s0 H E hr;have hu:=hr.units;exact (ah (aO bh.nd (rL rfl (aa (aj 0) ag) T.zeq T.zfq))
 (ah (cH (h0:=λ_=>by decide) bh.nd (Ah hu (aj 2)))
 (ah (aO bh.nd (cV (aa (aj 2) ag)))
 (ah (sR ada (bS qb kj (aZ dq eJ (by rfl) T.zmq eN (aa (aj 4) ag)) aA (bN _))
 (ah (cH (h0:=λ_=>by decide) bh.nd (cV ag))
 (ah (cg ada rfl (cy (aj 4)) (az bh.nd)
 (aq (cg ada rfl (cy (aj 1)) (az bh.nd)
 (ah (aO bh.nd (aB CC (hr.mono (by first|decide|lia)) (aa (aj 6) (aa (aj 7) ag))))
 (ah (dh (bS (v5 hu) xH (aj 8) (dH 3) (by with_unfolding_all rfl)) (ah (iJ hu gY (aj 8))
 (aq (kP (lX abV af7 af8 vR tj (aa (aj 8) ag))))) bw)
 (aq (dh (bS qb kj (aZ wH Ai (by rfl) T.zmq eN (aa (dH 3) ag)) (ke rfl zbq) (bN _)) (aq (zH XT.cls XT.exc hr.hd (fQ (N4 (w6 (v:=.int 120) rfl zbq ⟨_,rfl⟩)) jr) (λσ H Q h=>⟨120,rfl,by decide,by decide+kernel,λy=>h _ _ (show 1<=aah by decide) (λ_ _ e=>e)⟩) (λ_ z=>z))) bw)))))))
 (aq (xu (h0:=λ_=>by decide) bh.nd)))))
 (aq (kQ (aZ (jd rfl hu) ky (by rfl) T.zdq i7 (aa (dH 3) ag))))))))
end
end Hc
namespace Hc
open L2
section
variable {w:abq}{base:acP}
structure Ds (R:Str->aeO->Prop):Prop where
 q0:R "greatest_divisor" fL
 q1:R "ratio" Ci
 q2:R "common_bottom" iV
 q3:R "cards_at" nU
 q4:R "then" JF
 q5:R "back" D9
 q6:R "counted" uw
 q7:R "spread" yq
 q8:R "shuffled" je
 q9:R "lessened" pM
 q10:R "same" JG
 q11:R "both" D_
 q12:R "is_closed" kX
 q13:R "spanned" nV
 q14:R "exchanged" mD
 q15:R "pile_cut" nW
 q16:R "cut" MM
 q17:R "arrangements" cN
 q18:R "pile_mix" nX
 q19:R "_law_cell_at" mE
 q20:R "_law_state" pN
 q21:R "_law_take" ux
 q22:R "_law_order" kY
 q23:R "_law_shuffle" dO
 q24:R "_law_row" nY
 q25:R "_law_twice" pO
 q26:R "_law_lays_back" gO
 q27:R "_law_spans" kZ
 q28:R "law" uy
structure Al (K:aai)(mg:Str->Option aak)(cX:aaM):Prop extends Txt mg where
 D:Ds (Df K mg)
 XT:Wg K mg cX
def eo (T:Al K mg cX):Fn P w K mg base "greatest_divisor" 1 ["one","other"] (j8 K 2 bD .S):=(g_ P w base 0 ml .S eU T.D.q0 bR lB λhr hu=>(ah (aO (i:=0) bR.nd (aZ yW CY (by rfl) T.zkq G7 (aa (aj 0) ag)))
 (ah (aO (i:=1) bR.nd (aZ yW CY (by rfl) T.zkq G7 (aa (aj 1) ag)))
 (ah (sR aa3 (bS GF yd (aj 1) aA (bN _))
 (ah (aO (i:=2) bR.nd (aU lP jA (aj 0) (aj 1)))
 (ah (aO (i:=0) bR.nd (aj 1))
 (aq (aO (i:=1) bR.nd (aj 2))))))
 (aq (a_ (aj 0)))))) :)
def JI (T:Al K mg cX):Fn P w K mg base "ratio" 2 ["top","bottom"] (j8 K 2 nR .S):=(g_ P w base 1 ML .S yg T.D.q1 uz JH λhr hu=>(ah (aO (i:=2) uz.nd (aB (eo T) (rm hr) (aa (aj 0) (aa (aj 1) ag))))
 (ah (dh (bS GG By (aj 1) aA (bN _)) (aq (aO (i:=2) uz.nd (Ub Qe L9 (aj 2)))) bw)
 (aq (a_ (fG (aa (aU dU fo (aj 0) (aj 2)) (aa (aU dU fo (aj 1) (aj 2)) ag))))))) :)
def pQ (T:Al K mg cX):Fn P w K mg base "common_bottom" 2 ["some"] (j8 K 1 dA .S):=(g_ P w base 1 qY .S gA T.D.q2 dZ pP λhr hu=>(ah (aO (i:=1) dZ.nd aA)
 (ah (cg aa3 rfl (cy (aj 0)) (az (i:=2) dZ.nd)
 (aq (aO (i:=1) dZ.nd (aU dU fo (aU eL dj (aj 1) (gZ eM eS (aj 2) aA (λ_ _=>rfl))) (aB (eo T) (rm hr) (aa (aj 1) (aa (gZ eM eS (aj 2) aA (λ_ _=>rfl)) ag)))))))
 (aq (a_ (aj 1))))) :)
def qI (T:Al K mg cX):Fn P w K mg base "cards_at" 1 ["row","places"] (j8 K 2 eV .S):=(g_ P w base 0 B_ .S jK T.D.q3 Ar As λhr hu=>(aq (a_ (bE aT bQ (by rfl) T.zeq cf (aa (d_ (ai nU) ["row","places"] ["place","row"] [none,some 0] rfl (cy (aj 1)) (λY=>⟨(az (i:=0) (show (["place","row"]:List Str).Nodup by decide+kernel)),bO,(gZ eM eS (aj 1) (aj 0) (λ_ _=>rfl))⟩)) ag)))) :)
def n9 (T:Al K mg cX):Fn P w K mg base "then" 2 ["one","other"] (j8 K 2 jL .S):=(g_ P w base 1 RD .S Ca T.D.q4 MN MO λhr hu=>(aq (a_ (aB (qI T) (rm hr) (aa (aj 0) (aa (aj 1) ag))))) :)
def MT (T:Al K mg cX):Fn P w K mg base "back" 1 ["order"] (j8 K 1 uq .S):=(g_ P w base 0 RE .S Cb T.D.q5 MP MQ λhr hu=>(aq (a_ (bE aT bQ (by rfl) T.zeq cf (aa (d_ (ai D9) ["order"] ["place","order"] [none,some 0] rfl (cZ (aa (aZ dq eJ (by rfl) T.zmq eN (aa (aj 0) ag)) ag) T.zfq) (λY=>⟨(az (i:=0) (show (["place","order"]:List Str).Nodup by decide+kernel)),bO,(Js (aj 1) (aa (aj 0) ag))⟩)) ag)))) :)
def e_ (T:Al K mg cX):Fn P w K mg base "counted" 1 ["shuffle"] (j8 K 1 cC .O):=(g_ P w base 0 FP .O pG T.D.q6 mF Cj λhr hu=>(ah (cH (i:=1) mF.nd jb)
 (ah (cg aa3 rfl (cy (aj 0)) (az (i:=2) mF.nd)
 (aq (iJ (j:=1) hu (aU bJ bK (nv (j:=1) hu (aj 2) aA) aA) (aj 2))))
 (aq (rJ (i:=1) (hi:=by decide))))) :)
def FR (T:Al K mg cX):Fn P w K mg base "spread" 2 ["weights","shuffle"] (j8 K 2 nS .O):=(g_ P w base 1 JA .O ur T.D.q7 fM FQ λhr hu=>(ah (cH (i:=2) fM.nd jb)
 (ah (cg aa3 rfl (ic (aB (e_ T) (rm hr) (aa (aj 1) ag))) (gu rfl (bo (az (i:=3) fM.nd) (bo (az (i:=4) fM.nd) eI)))
 (aq (cg aa3 rfl (ic (aj 0)) (gu rfl (bo (az (i:=5) fM.nd) (bo (az (i:=6) fM.nd) eI)))
 (ah (aO (i:=7) fM.nd (aB (qI T) (rm hr) (aa (aj 5) (aa (aj 3) ag))))
 (aq (iJ (j:=2) hu (aU bJ bK (nv (j:=2) hu (aj 7) aA) (aU eL dj (aj 6) (aj 4))) (aj 7)))))))
 (aq (rJ (i:=2) (hi:=by decide))))) :)
def qJ (T:Al K mg cX):Fn P w K mg base "shuffled" 3 ["mix","shuffle"] (j8 K 2 eW .O):=(g_ P w base 2 Cc .O mq T.D.q8 fc Au λhr hu=>(ah (aO (i:=2) fc.nd (aB (pQ T) (rm hr) (aa (d_ (ai je) ["mix","shuffle","bottom","weights","row","chance","gathered"] ["row","chance"] [none,none] rfl (cy (aj 0)) (λY=>⟨(gu rfl (bo (az (i:=0) (show (["row","chance"]:List Str).Nodup by decide+kernel)) (bo (az (i:=1) (show (["row","chance"]:List Str).Nodup by decide+kernel)) eI))),bO,(aj 1)⟩)) ag)))
 (ah (cH (i:=3) fc.nd jb)
 (ah (cg aa3 rfl (cy (aj 0)) (gu rfl (bo (az (i:=4) fc.nd) (bo (az (i:=5) fc.nd) eI)))
 (aq (iJ (j:=3) hu (aU eL dj (gZ eM eS (aj 5) aA (λ_ _=>rfl)) (aU dU fo (aj 2) (gZ eM eS (aj 5) aA (λ_ _=>rfl)))) (aj 4))))
 (xO 3 (ah (aO (i:=6) fc.nd (aB (FR T) (rm hr) (aa (aj 3) (aa (aj 1) ag))))
 (aq (kQ (d_ (ai je) ["mix","shuffle","bottom","weights","row","chance","gathered"] ["row","gathered","bottom","shuffle"] [none,some 6,some 2,some 1] rfl (cy (m1:=.O) (aZ (jd rfl hu) ky (by rfl) T.zdq i7 (aa (aj 6) ag))) (λY=>⟨(az (i:=0) (show (["row","gathered","bottom","shuffle"]:List Str).Nodup by decide+kernel)),bO,(fG (aa (aj 0) (aa (aB (JI T) (rm hr) (aa (BD hu (aj 1) (aj 0)) (aa (aU eL dj (aj 2) (aZ dq eJ (by rfl) T.zmq eN (aa (aj 3) ag))) ag))) ag)))⟩))))))))) :)
def iN (T:Al K mg cX):Fn P w K mg base "lessened" 2 ["often"] (j8 K 1 eX .O):=(g_ P w base 1 Cd .O mw T.D.q9 dP Av λhr hu=>(ah (aO (i:=1) dP.nd aA)
 (ah (cg aa3 rfl (Mr (aj 0)) (az (i:=2) dP.nd)
 (aq (aO (i:=1) dP.nd (aB (eo T) (rm hr) (aa (aj 1) (aa (aj 2) ag))))))
 (ah (cH (i:=3) dP.nd jb)
 (ah (cg aa3 rfl (ic (aj 0)) (gu rfl (bo (az (i:=4) dP.nd) (bo (az (i:=2) dP.nd) eI)))
 (aq (iJ (j:=3) hu (aU dU fo (aj 2) (aj 1)) (aj 4))))
 (aq (rJ (i:=3) (hi:=by decide))))))) :)
def MU (T:Al K mg cX):Fn P w K mg base "same" 3 ["one","other"] (j8 K 2 yi .S):=(g_ P w base 2 RF .S Ce T.D.q10 MR MS λhr hu=>(aq (a_ (oW (ME hu) Jl (aB (iN T) (rm hr) (aa (aB (e_ T) (rm hr) (aa (aj 0) ag)) ag)) (aB (iN T) (rm hr) (aa (aB (e_ T) (rm hr) (aa (aj 1) ag)) ag)) (bN _)))) :)
theorem MV (T:Al K mg cX):Fn P w K mg base "both" 3 ["one","other"] (j8 K 2 my .S):=by
 obtain⟨iB,zcq⟩:=T.zcq;exact (g_ P w base 2 JB .S uu T.D.q11 cx Ea λhr hu=>(ah (cH (i:=2) cx.nd jb)
 (ah (cg aa3 rfl (ic (aB (e_ T) (rm hr) (aa (aj 0) ag))) (gu rfl (bo (az (i:=3) cx.nd) (bo (az (i:=4) cx.nd) eI)))
 (aq (cg aa3 rfl (ic (aB (e_ T) (rm hr) (aa (aj 1) ag))) (gu rfl (bo (az (i:=5) cx.nd) (bo (az (i:=6) cx.nd) eI)))
 (ah (aO (i:=7) cx.nd (aB (n9 T) (rm hr) (aa (aj 3) (aa (aj 5) ag))))
 (aq (iJ (j:=2) hu (aU bJ bK (nv (j:=2) hu (aj 7) aA) (aU eL dj (aj 4) (aj 6))) (aj 7)))))))
 (xO 2 (ah (aO (i:=8) cx.nd (aB (iN T) (rm hr) (aa (aj 2) ag)))
 (ah (dh (bS qb kj (DZ rfl (aj 8) T.zjq) (ke (i:=24) rfl zcq) (bN _)) (aq (BG λ_=>⟨_,_,rfl⟩)) bw)
 (ah (cH (i:=9) cx.nd (cV ag))
 (ah (cg aa3 rfl (cy (m1:=.O) (aZ (jd rfl hu) ky (by rfl) T.zdq i7 (aa (aj 8) ag))) (az (i:=7) cx.nd)
 (aq (kP (lX (i:=9) abV adb ade rO jD (aa (aU DX Ab (cV (aa (aj 7) ag)) (BD hu (aj 8) (aj 7))) ag)))))
 (aq (a_ (bE aT bQ (by rfl) T.zeq cf (aa (dH 9) ag))))))))))) :)
def gQ (T:Al K mg cX):Fn P w K mg base "is_closed" 3 ["shuffle"] (j8 K 1 br .S):=(g_ P w base 2 Am .S kA T.D.q12 jP yr λhr hu=>(ah (aO (i:=1) jP.nd (aB (e_ T) (rm hr) (aa (aj 0) ag)))
 (ah (dh (bS GF yd (MG rfl (aj 1) T.znq) (MJ rfl (aj 1) T.zlq) (bN _)) (aq (a_ gY)) bw)
 (ah (cg aa3 rfl (Dx (aj 1)) (az (i:=2) jP.nd)
 (aq (dh (sO (lV (aZ (EX rfl) Mb (by rfl) T.zpq Qy (aa (d_ (ai kX) ["shuffle","often","one"] ["other","often","one"] [none,some 1,some 2] rfl (Dx (aj 1)) (λY=>⟨(az (i:=0) (show (["other","often","one"]:List Str).Nodup by decide+kernel)),bO,(oW (QX hu) xH (aB (n9 T) (rm hr) (aa (aj 2) (aa (aj 0) ag))) (aj 1) (by with_unfolding_all rfl))⟩)) ag)))) (aq (a_ gY)) bw)))
 (aq (a_ gY))))) :)
theorem uB (T:Al K mg cX):Fn P w K mg base "spanned" 3 ["many","orders"] (j8 K 2 dW .O):=by
 obtain⟨gD,zbq⟩:=T.zbq;exact (g_ P w base 2 wI .O kW T.D.q13 bh uA λhr hu=>(ah (aO (i:=2) bh.nd (rL rfl (aa (aj 0) ag) T.zeq T.zfq))
 (ah (cH (i:=3) bh.nd (Ah hu (aj 2)))
 (ah (aO (i:=4) bh.nd (cV (aa (aj 2) ag)))
 (ah (sR aa3 (bS qb kj (aZ dq eJ (by rfl) T.zmq eN (aa (aj 4) ag)) aA (bN _))
 (ah (cH (i:=5) bh.nd (cV ag))
 (ah (cg aa3 rfl (cy (aj 4)) (az (i:=6) bh.nd)
 (aq (cg aa3 rfl (cy (aj 1)) (az (i:=7) bh.nd)
 (ah (aO (i:=8) bh.nd (aB (n9 T) (rm hr) (aa (aj 6) (aa (aj 7) ag))))
 (ah (dh (bS (v5 hu) xH (aj 8) (dH 3) (by with_unfolding_all rfl)) (ah (iJ (j:=3) hu gY (aj 8))
 (aq (kP (lX (i:=5) abV af7 af8 vR tj (aa (aj 8) ag))))) bw)
 (aq (dh (bS qb kj (aZ wH Ai (by rfl) T.zmq eN (aa (dH 3) ag)) (ke (i:=120) rfl zbq) (bN _)) (aq (BG λ_=>⟨_,_,rfl⟩)) bw)))))))
 (aq (xu (i:=4) (j:=5) bh.nd)))))
 (aq (kQ (aZ (jd rfl hu) ky (by rfl) T.zdq i7 (aa (dH 3) ag)))))))) :)
def n_ (T:Al K mg cX):Fn P w K mg base "exchanged" 1 ["many","piles","sources"] (j8 K 3 dM .S):=(g_ P w base 0 An .S kC T.D.q14 d4 yt λhr hu=>(ah (cH (i:=3) d4.nd (xE rfl (aa (aj 0) ag) T.zhq T.zfq))
 (ah (cg aa3 rfl (HH (aa (aj 1) (aa (aj 2) ag)) T.zoq) (gu rfl (bo (az (i:=4) d4.nd) (bo (az (i:=5) d4.nd) eI)))
 (aq (cg aa3 rfl (HH (aa (aj 4) (aa (gZ eM eS (aj 1) (aj 5) (λ_ _=>rfl)) ag)) T.zoq) (gu rfl (bo (az (i:=6) d4.nd) (bo (az (i:=7) d4.nd) eI)))
 (aq (xA (i:=3) (aj 7) (aj 6))))))
 (aq (a_ (bE aT bQ (by rfl) T.zeq cf (aa (dH 3) ag)))))) :)
def qK (T:Al K mg cX):Fn P w K mg base "pile_cut" 2 ["many","piles"] (j8 K 2 eY .S):=(g_ P w base 1 Cf .S mB T.D.q15 qG Aw λhr hu=>(ah (aO (i:=2) qG.nd (rL rfl (aa (aZ dq eJ (by rfl) T.zmq eN (aa (aj 1) ag)) ag) T.zeq T.zfq))
 (aq (a_ (bE aT bQ (by rfl) T.zeq cf (aa (d_ (ai nW) ["many","piles","numbers"] ["turn","many","piles","numbers"] [none,some 0,some 1,some 2] rfl (cy (aj 2)) (λY=>⟨(az (i:=0) (show (["turn","many","piles","numbers"]:List Str).Nodup by decide+kernel)),bO,(aB (n_ T) (rm hr) (aa (aj 1) (aa (aj 2) (aa (aU bJ bK (cY c9 fH (aj 3) (di (aj 0)) fh) (cY c9 fH (aj 3) fh (di (aj 0)))) ag))))⟩)) ag))))) :)
def RI (T:Al K mg cX):Fn P w K mg base "cut" 3 ["many","places"] (j8 K 2 Ao .S):=(g_ P w base 2 U3 .S JC T.D.q16 RG RH λhr hu=>(aq (a_ (aB (qK T) (rm hr) (aa (aj 0) (aa (bE aT bQ (by rfl) T.zeq cf (aa (d_ (ai MM) ["many","places"] ["place"] [none] rfl (cy (aj 1)) (λY=>⟨(az (i:=0) (show (["place"]:List Str).Nodup by decide+kernel)),bO,(fG (aa (aj 0) ag))⟩)) ag)) ag))))) :)
theorem rj (T:Al K mg cX):∀n,Fn P w K mg base "arrangements" (n+1) ["numbers"] (j8 K 1 (iq n) .O):=by
 intro n
 induction n with
 |zero=>
  refine Df.fnD (N:=["numbers","told","number","rest"]) (ps:=["numbers"]) (st:=cN) (k:=0) kD .O (ft 0) T.D.q17 dB j4 rfl (by decide) ?_;intro f cA A outer s0 H E hr;have hu:=hr.units;have Ta:=GU hr;exact Mc
 |succ n F_arrangements=>
  refine Df.fnD (N:=["numbers","told","number","rest"]) (ps:=["numbers"]) (st:=cN) (k:=n+1) kD .O (ft (n+1)) T.D.q17 dB j4 rfl (by decide) ?_;intro f cA A outer s0 H E hr;have hu:=hr.units;have Ta:=GU hr;exact (ah (dh (bS vL kS (aZ dq eJ (by rfl) T.zmq eN (aa (aj 0) ag)) aA (bN _)) (aq (kQ (cV (aa (fG ag) ag)))) bw)
 (ah (cH (i:=1) dB.nd (cV ag))
 (ah (cg aa3 rfl (cy (aj 0)) (az (i:=2) dB.nd)
 (ah (E3 (i:=3) (ai cN) ["numbers","told","number","rest"] ["other","number"] [none,some 2] dB.nd rfl (cy (aj 0)) (λY=>⟨(az (i:=0) (show (["other","number"]:List Str).Nodup by decide+kernel)),(sW (bS GF yd (aj 0) (aj 1) (bN _))),(aj 0)⟩))
 (aq (kP (lX (i:=1) abV adb ade rO jD (aa (d_ (ai cN) ["numbers","told","number","rest"] ["more","number"] [none,some 2] rfl (cy (m1:=.O) (aB F_arrangements (rm hr) (aa (aj 3) ag))) (λY=>⟨(az (i:=0) (show (["more","number"]:List Str).Nodup by decide+kernel)),bO,(aU bJ bK (fG (aa (aj 1) ag)) (aj 0))⟩)) ag))))))
 (aq (rJ (i:=1) (hi:=by decide))))))
theorem AA (T:Al K mg cX):Fn P w K mg base "pile_mix" 22 ["many","piles"] (j8 K 2 fJ .S):=by
 obtain⟨gF,zaq⟩:=T.zaq;exact (g_ P w base 21 Cg .S mC T.D.q18 Ax Ay λhr hu=>(ah (dh (bS qb kj (aZ dq eJ (by rfl) T.zmq eN (aa (aj 1) ag)) (ke (i:=4) rfl zaq) (bN _)) (aq (BG λ_=>⟨_,_,rfl⟩)) bw)
 (aq (a_ (bE aT bQ (by rfl) T.zeq cf (aa (d_ (ai nX) ["many","piles"] ["sources","many","piles"] [none,some 0,some 1] rfl (cy (m1:=.O) (aB ((rj T) 20) (rm hr) (aa (xE rfl (aa (aZ dq eJ (by rfl) T.zmq eN (aa (aj 1) ag)) ag) T.zhq T.zfq) ag))) (λY=>⟨(az (i:=0) (show (["sources","many","piles"]:List Str).Nodup by decide+kernel)),bO,(aB (n_ T) (rm hr) (aa (aj 1) (aa (aj 2) (aa (aj 0) ag))))⟩)) ag))))) :)
def rk (T:Al K mg cX):Fn P w K mg base "_law_cell_at" 1 ["script","k"] (j8 K 2 dN .S):=(g_ P w base 0 uv .S fu T.D.q19 qZ q_ λhr hu=>(ah (dh (bS GG By (aj 1) (aZ dq eJ (by rfl) T.zmq eN (aa (aj 0) ag)) (bN _)) (aq (a_ (gZ eM eS (aj 0) (aj 1) (λ_ _=>rfl)))) bw)
 (aq (a_ aA))) :)
def vC (T:Al K mg cX):Fn P w K mg base "_law_state" 2 ["script","k"] (j8 K 2 dX .O):=(g_ P w base 1 ym .O gK T.D.q20 lH vx λhr hu=>(ah (aO (i:=2) lH.nd (aB (rk T) (rm hr) (aa (aj 0) (aa (aj 1) ag))))
 (ah (dh (bS TF QQ (aj 2) (aU GD CV aA aA) (bN _)) (aq (kQ (cV (aa (aU GC CU (aj 2) (aU GD CV aA aA)) (aa gY ag))))) bw)
 (aq (kQ (cV (aa (aU lP jA (aj 2) aA) (aa gY ag))))))) :)
def bZ (T:Al K mg cX):Fn P w K mg base "_law_take" 1 ["state","many"] (QH K 2 aG):=(Mo P w base 0 Ap iM T.D.q21 gP yu λhr hu=>(ah (dh (lV (gZ eM eS (dH 0) aA (λ_ _=>rfl))) (ah (aO (i:=2) gP.nd (aU lP jA (gZ eM eS (dH 0) aA (λ_ _=>rfl)) (aj 1)))
 (ah (xA (i:=0) (aU dU fo (gZ eM eS (dH 0) aA (λ_ _=>rfl)) (aj 1)) aA)
 (aq (a_ (aj 2))))) bw)
 (ah (xA (i:=0) (aU lP jA (aU bJ bK (aU eL dj (gZ eM eS (dH 0) aA (λ_ _=>rfl)) aA) aA) aA) aA)
 (ah (aO (i:=3) gP.nd (aU lP jA (aU bJ bK (aU bJ bK (aU eL dj (gZ eM eS (dH 0) aA (λ_ _=>rfl)) (gZ eM eS (dH 0) aA (λ_ _=>rfl))) (aU eL dj aA (gZ eM eS (dH 0) aA (λ_ _=>rfl)))) aA) aA))
 (ah (aO (i:=3) gP.nd (aU lP jA (aU bJ bK (aU eL dj (aj 3) (aj 3)) (aU eL dj aA (aj 3))) aA))
 (aq (a_ (aU lP jA (aU dU fo (aj 3) aA) (aj 1)))))))) :)
theorem fU (T:Al K mg cX):Fn P w K mg base "_law_order" 2 ["state","many"] (QH K 2 bA):=(Mo P w base 1 jM jN T.D.q22 lJ vy λhr hu=>(ah (cH (i:=2) lJ.nd (xE rfl (aa (aj 1) ag) T.zhq T.zfq))
 (aq (a_ (bE aT bQ (by rfl) T.zeq cf (aa (sX (ai kY) ["state","many","left"] ["k","left","state"] [none,some 2,some 0] rfl (cZ (aa (aj 1) ag) T.zfq) (λY=>⟨(az (i:=0) (show (["k","left","state"]:List Str).Nodup by decide+kernel)),bO,(lX (i:=1) abV PySem.F.slot_list_pop PySem.F.type_list_pop GP E9 (aa (cz (i:=2) (bZ T) (rm hr) (aa (aZ dq eJ (by rfl) T.zmq eN (aa (dH 1) ag)) ag)) ag))⟩)) ag))))) :)
def rn (T:Al K mg cX):Fn P w K mg base "_law_shuffle" 3 ["state","many"] (QH K 2 aQ):=(Mo P w base 2 ir cE T.D.q23 bg rf λhr hu=>(ah (aO (i:=2) bg.nd (rL rfl (aa (aj 1) ag) T.zeq T.zfq))
 (ah (aO (i:=3) bg.nd (cz (i:=0) (bZ T) (rm hr) (aa aA ag)))
 (ah (dh (bS vL kS (aj 3) aA (bN _)) (aq (a_ (bE aT bQ (by rfl) T.zeq cf (aa (d_ (ai dO) ["state","many","stays","way","order","half","some","size","k","longer"] ["k","stays"] [none,some 2] rfl (cZ (aa (aj 1) ag) T.zfq) (λY=>⟨(az (i:=0) (show (["k","stays"]:List Str).Nodup by decide+kernel)),bO,(aU bJ bK (cY c9 fH (aj 1) (di (aj 0)) fh) (cY c9 fH (aj 1) fh (di (aj 0))))⟩)) ag)))) bw)
 (ah (dh (bS vL kS (aj 3) aA (bN _)) (ah (aO (i:=4) bg.nd (cz (i:=0) (fU T) (rm hr) (aa (aj 1) ag)))
 (aq (a_ (fG (aa (aj 2) (aa (aj 4) ag)))))) bw)
 (ah (dh (bS vL kS (aj 3) aA (bN _)) (ah (aO (i:=5) bg.nd (aU dU fo (aj 1) aA))
 (aq (a_ (fG (aa (aj 2) (aa (aU bJ bK (aU bJ bK (cY c9 fH (aj 2) (di (aj 5)) (di (aU eL dj aA (aj 5)))) (cY c9 fH (aj 2) fh (di (aj 5)))) (cY c9 fH (aj 2) (di (aU eL dj aA (aj 5))) fh)) ag)))))) bw)
 (ah (dh (bS vL kS (aj 3) aA (bN _)) (ah (aO (i:=6) bg.nd (cV (aa (fG ag) ag)))
 (ah (aO (i:=7) bg.nd (aZ (oQ rfl) tf (by rfl) T.znq xk (aa (aj 1) (aa (aU bJ bK aA (cz (i:=0) (bZ T) (rm hr) (aa aA ag))) ag))))
 (ah (cg aa3 rfl (cZ (aa (aj 7) ag) T.zfq) (az (i:=8) bg.nd)
 (ah (cH (i:=9) bg.nd (cV ag))
 (ah (cg aa3 rfl (cy (aj 6)) (az (i:=4) bg.nd)
 (aq (kP (lX (i:=9) abV adb ade rO jD (aa (d_ (ai dO) ["state","many","stays","way","order","half","some","size","k","longer"] ["j","order","k"] [none,some 4,some 8] rfl (cZ (aa (aU bJ bK (aj 8) aA) ag) T.zfq) (λY=>⟨(az (i:=0) (show (["j","order","k"]:List Str).Nodup by decide+kernel)),bO,(aU bJ bK (aU bJ bK (cY c9 fH (aj 1) fh (di (aj 0))) (fG (aa (aj 2) ag))) (cY c9 fH (aj 1) (di (aj 0)) fh))⟩)) ag)))))
 (aq (xu (i:=6) (j:=9) bg.nd)))))
 (aq (a_ (bE aT bQ (by rfl) T.zeq cf (aa (d_ (ai dO) ["state","many","stays","way","order","half","some","size","k","longer"] ["order","stays","size"] [none,some 2,some 7] rfl (cy (aj 6)) (λY=>⟨(az (i:=0) (show (["order","stays","size"]:List Str).Nodup by decide+kernel)),bO,(aU bJ bK (aj 0) (cY c9 fH (aj 1) (di (aj 2)) fh))⟩)) ag))))))) bw)
 (aq (a_ (bE aT bQ (by rfl) T.zeq cf (aa (sX (ai dO) ["state","many","stays","way","order","half","some","size","k","longer"] ["k","state","many"] [none,some 0,some 1] rfl (cZ (aa (aU bJ bK aA (cz (i:=0) (bZ T) (rm hr) (aa aA ag))) ag) T.zfq) (λY=>⟨(az (i:=0) (show (["k","state","many"]:List Str).Nodup by decide+kernel)),bO,(cz (i:=1) (fU T) (rm hr) (aa (aj 2) ag))⟩)) ag)))))))))) :)
def AB (T:Al K mg cX):Fn P w K mg base "_law_row" 2 ["state","many"] (QH K 2 eZ):=(Mo P w base 1 iu jO T.D.q24 qH Az λhr hu=>(ah (aO (i:=2) qH.nd (cz (i:=0) (bZ T) (rm hr) (aa aA ag)))
 (ah (dh (bS GG By (aj 2) aA (bN _)) (aq (a_ (bE aT bQ (by rfl) T.zeq cf (aa (sX (ai nY) ["state","many","way"] ["k","state"] [none,some 0] rfl (cZ (aa (aj 1) ag) T.zfq) (λY=>⟨(az (i:=0) (show (["k","state"]:List Str).Nodup by decide+kernel)),bO,(cz (i:=1) (bZ T) (rm hr) (aa aA ag))⟩)) ag)))) bw)
 (aq (a_ (bE aT bQ (by rfl) T.zeq cf (aa (sX (ai nY) ["state","many","way"] ["k","state","way"] [none,some 0,some 2] rfl (cZ (aa (aj 1) ag) T.zfq) (λY=>⟨(az (i:=0) (show (["k","state","way"]:List Str).Nodup by decide+kernel)),bO,(cz (i:=1) (bZ T) (rm hr) (aa (gZ eM eS (cV (aa aA (aa aA ag))) (aU GC CU (aj 2) aA) (λ_ _=>rfl)) ag))⟩)) ag)))))) :)
def MW (T:Al K mg cX):YQ P w K mg base cX:=Ck (P:=P) (w:=w) (base:=base) T.toTxt T.XT (n9 T) (e_ T) (iN T) T.D.q11
def vD (T:Al K mg cX):Fn P w K mg base "_law_twice" 4 ["shuffle"] (j8 K 1 dY .S):=(g_ P w base 3 yn .S gL T.D.q25 iW vz λhr hu=>(ah (aO (i:=1) iW.nd xn)
 (ah (Dy (i:=1) (MV T) (MW T) (rm hr) T.XT.cls T.XT.own iW.nd (aa (aj 0) (aa (aj 0) ag)))
 (aq (a_ (Hh (ha:=(oW Lq Hs (aj 1) xn (bN _))) (hb:=(Bq (aB (MU T) (rm hr) (aa (aj 1) (aa (aj 0) ag)))))))))) :)
def iO (T:Al K mg cX):Fn P w K mg base "_law_lays_back" 4 ["shuffle","row"] (j8 K 2 bH .S):=(g_ P w base 3 pK .S fK T.D.q26 fy n6 λhr hu=>(ah (cg aa3 rfl (cy (m1:=.O) (aB (qJ T) (rm hr) (aa (cV (aa (fG (aa (aj 1) (aa (fG (aa aA (aa aA ag))) ag))) ag)) (aa (aj 0) ag)))) (gu rfl (bo (az (i:=2) fy.nd) (bo (az (i:=3) fy.nd) eI)))
 (aq (dh (bS (xj hu) (sY (f:=not)) (RC hu (bE (B5 rfl hu) FJ (by rfl) T.zgq LL (aa (aB (qJ T) (rm hr) (aa (cV (aa (fG (aa (aj 2) (aa (fG (aa aA (aa aA ag))) ag))) ag)) (aa (aj 0) ag))) ag)) (aj 1)) (aj 3) (bN _)) (aq (a_ gY)) bw)))
 (aq (a_ (oW (Qx hu) (sY (f:=id)) (d_ (ai gO) ["shuffle","row","end","chance"] ["order","shuffle"] [none,some 0] rfl (cy (aj 0)) (λY=>⟨(az (i:=0) (show (["order","shuffle"]:List Str).Nodup by decide+kernel)),(sW (bS (wB hu) Ji (aB (MT T) (rm hr) (aa (aj 0) ag)) (aj 1) (by with_unfolding_all rfl))),(aj 0)⟩)) (cV ag) (bN _))))) :)
def Cm (T:Al K mg cX):YR P w K mg base cX:=vB (P:=P) (w:=w) (base:=base) T.toTxt T.XT (n9 T) T.D.q13
def vE (T:Al K mg cX):Fn P w K mg base "_law_spans" 4 ["many","orders"] (j8 K 2 fx .S):=(g_ P w base 3 yo .S gN T.D.q27 iX vA λhr hu=>(ah (aO (i:=2) iX.nd xn)
 (ah (Dy (i:=2) (uB T) (Cm T) (rm hr) T.XT.cls T.XT.own iX.nd (aa (aj 0) (aa (aj 1) ag)))
 (ah (dh (bS Qf Ma (aj 2) xn (bN _)) (aq (a_ gY)) bw)
 (ah (dh (DW.dt (NQ (bS (xj hu) (sY (f:=not)) (d_ (ai kZ) ["many","orders","found"] ["order","found"] [none,some 2] rfl (cy (aj 1)) (λY=>⟨(az (i:=0) (show (["order","found"]:List Str).Nodup by decide+kernel)),(sW (bS (wB hu) Ji (aj 0) (aj 1) (by with_unfolding_all rfl))),(aj 0)⟩)) (cV ag) (bN _)) (Hf (bS (xj hu) (sY (f:=not)) (aB (uB T) (rm hr) (aa (aj 0) (aa (aU bJ bK (cY c9 fH (aj 2) fh (di aA)) (aj 1)) ag))) (aj 2) (bN _))))) (aq (a_ gY)) bw)
 (aq (a_ (Ua (ha:=(oW qb kj (aZ dq eJ (by rfl) T.zmq eN (aa (aj 2) ag)) aA (bN _))) (hb:=(Bq (aB (gQ T) (rm hr) (aa (bE aT bQ (by rfl) T.zeq cf (aa (aj 2) ag)) ag))))))))))) :)
def RJ (T:Al K mg cX)(FL:K8 K "law" "law" uy f fd)(hp:∀ns:List Int,ns.length<=63->Aq [.scr (ns.map .int)]=.ok (.bl true)):iP P w K mg base xi 23 f fd ["script"] (zp K):=by
 refine QP (f:=Aq) ?_ hp;refine K8.okD (N:=["script","k","state","many","shuffle","row","equal","places","size","piles","some"]) (ps:=["script"]) (st:=uy) (k:=22) JD .S JE FL iw rfl (by decide) ?_;intro f cA A outer s0 H E hr;have hu:=hr.units;have Ta:=GU hr;exact (ah (cg aa3 rfl (cZ (aa (aZ (EL rfl) Ht (by rfl) T.zlq G6 (aa aA (aa (aZ (oQ rfl) tf (by rfl) T.znq xk (aa (aZ dq eJ (by rfl) T.zmq eN (aa (aj 0) ag)) (aa aA ag))) ag))) ag) T.zfq) (az (i:=1) iw.nd)
 (ah (cH (i:=2) iw.nd (aB (vC T) (rm hr) (aa (aj 0) (aa (aj 1) ag))))
 (ah (aO (i:=3) iw.nd (aU bJ bK aA (cz (i:=2) (bZ T) (rm hr) (aa aA ag))))
 (ah (aO (i:=4) iw.nd (cz (i:=2) (rn T) (rm hr) (aa (aj 3) ag)))
 (ah (aO (i:=5) iw.nd (cz (i:=2) (AB T) (rm hr) (aa (aj 3) ag)))
 (ah (aO (i:=6) iw.nd (oW vL kS (B9 rfl (aa (d_ (ai uy) ["script","k","state","many","shuffle","row","equal","places","size","piles","some"] ["order","shuffle"] [none,some 4] rfl (cy (aj 4)) (λY=>⟨(az (i:=0) (show (["order","shuffle"]:List Str).Nodup by decide+kernel)),bO,(Jv hu (aj 1) (aa (aj 0) ag))⟩)) ag) (by rfl) T.zmq (by rfl) T.ziq) aA (bN _)))
 (ah (dh (bS (xj hu) (sY (f:=not)) (aB (gQ T) (rm hr) (aa (aj 4) ag)) (Hh (ha:=(aj 6)) (hb:=(Bq (aB (vD T) (rm hr) (aa (aj 4) ag))))) (bN _)) (aq (a_ gY)) bw)
 (ah (dh (DW.dt (QE (lV (aB (gQ T) (rm hr) (aa (aj 4) ag))) (LX (sO (lV (aB (iO T) (rm hr) (aa (aj 4) (aa (aj 5) ag)))))))) (aq (a_ gY)) bw)
 (ah (aO (i:=7) iw.nd (cz (i:=2) (fU T) (rm hr) (aa (aj 3) ag)))
 (ah (aO (i:=8) iw.nd (aU bJ bK aA (cz (i:=2) (bZ T) (rm hr) (aa (aj 3) ag))))
 (ah (aO (i:=9) iw.nd (bE aT bQ (by rfl) T.zeq cf (aa (d_ (ai uy) ["script","k","state","many","shuffle","row","equal","places","size","piles","some"] ["j","places","size"] [none,some 7,some 8] rfl (cZ (aa (aZ (oQ rfl) tf (by rfl) T.znq xk (aa aA (aa (aU dU fo (aj 3) (aj 8)) ag))) ag) T.zfq) (λY=>⟨(az (i:=0) (show (["j","places","size"]:List Str).Nodup by decide+kernel)),bO,(cY c9 fH (aj 1) (di (aU eL dj (aj 0) (aj 2))) (di (aU bJ bK (aU eL dj (aj 0) (aj 2)) (aj 2))))⟩)) ag)))
 (ah (cg aa3 rfl (cy (cV (aa (aB (RI T) (rm hr) (aa (aj 3) (aa (cY c9 fH (aj 7) fh (di (aj 8))) ag))) (aa (aB (qK T) (rm hr) (aa (aj 3) (aa (aj 9) ag))) (aa (aB (AA T) (rm hr) (aa (aj 3) (aa (aj 9) ag))) ag))))) (az (i:=10) iw.nd)
 (aq (dh (DW.dt (NQ (sO (lV (aB (gQ T) (rm hr) (aa (aj 10) ag)))) (Hf (sO (lV (aB (iO T) (rm hr) (aa (aj 10) (aa (aj 5) ag)))))))) (aq (a_ gY)) bw)))
 (aq (dh (sO (lV (aB (vE T) (rm hr) (aa (aj 3) (aa (sX (ai uy) ["script","k","state","many","shuffle","row","equal","places","size","piles","some"] ["j","state","many"] [none,some 2,some 3] rfl (cZ (aa (aU bJ bK aA (cz (i:=2) (bZ T) (rm hr) (aa aA ag))) ag) T.zfq) (λY=>⟨(az (i:=0) (show (["j","state","many"]:List Str).Nodup by decide+kernel)),bO,(cz (i:=1) (fU T) (rm hr) (aa (aj 2) ag))⟩)) ag))))) (aq (a_ gY)) bw))))))))))))))
 (aq (a_ gY)))
end
inductive XC (K:aai)(x:Str)(st:aeO):Prop
 |mk {f:aaM} {od an:Option aaM} {sl:Array (Option aak)} {oc kV dc pm cd ct:aak}:abE K abc x=some (some (.ref f))->K.lookup f=some ⟨oc,od,.func (abP x x (dC st) (bI st) (ai st) .none kV dc pm an cd ct),sl⟩->afO K cd x=true->acb K (.ref f)=true->XC K x st
theorem cI (q:XC K x st)(X:K.In h)(G:h.Ns abc mg):Df K mg x st:=by
 obtain⟨a,l,c,k⟩:=q;exact⟨_,_,aeK X G a,GR (st:=st) l c k⟩
theorem all_mk {w:abq}{fa:aaM}(X:K.In h)(G:h.Ns abc mg)(hfa:mg "law"=some (.ref fa))(Q:Ds (XC K))(zkq:abE K abc "abs"=some none)(zpq:abE K abc "all"=some none)(zgq:abE K abc "dict"=some none)(zmq:abE K abc "len"=some none)(zhq:abE K abc "list"=some none)(zlq:abE K abc "max"=some none)(znq:abE K abc "min"=some none)(zfq:abE K abc "range"=some none)(ziq:abE K abc "set"=some none)(zdq:abE K abc "sorted"=some none)(zjq:abE K abc "sum"=some none)(zeq:abE K abc "tuple"=some none)(zoq:abE K abc "zip"=some none){iB:Tok}(zcq:abE K abc "MOST_ORDERS"=some (some (.int 24 iB))){gF:Tok}(zaq:abE K abc "MOST_PILES_MIXED"=some (some (.int 4 gF))){gD:Tok}(zbq:abE K abc "MOST_SPANNED"=some (some (.int 120 gD))){jm:aaM}(p_:abE K abc "TooMany"=some (some (.ref jm)))(K3:PySem.W.excIn K jm zF "ValueError.__new__"=true)(K4:PySem.W.exmOne K (.ref jm) (.ref jm)=some true)(hp:∀ns:List Int,ns.length<=63->Aq [.scr (ns.map .int)]=.ok (.bl true))
  : ∃fd:adA,(∀(s:aaD) (v:aak),BindsTo s fd ⟨[v],[]⟩ [("script",v)])/\∀base:acP,K.In base->base.Ns abc mg->iP PySem.Challenge.pw_hushcards_k17_whole_closed_ones_stay w K mg base xi 23 fa fd ["script"] (zp K):=by
 obtain @⟨f_,od_,an28,sl_,oc_,kV28,dc28,pm28,cd28,ct28,a28,l28,c28,k28⟩:=Q.q28;have e:=hfa.symm.trans (aeK X G a28);cases e;have T:Txt mg:=⟨abo X G zkq,abo X G zpq,abo X G zgq,abo X G zmq,abo X G zhq,abo X G zlq,abo X G znq,abo X G zfq,abo X G ziq,abo X G zdq,abo X G zjq,abo X G zeq,abo X G zoq,⟨_,aeK X G zcq⟩,⟨_,aeK X G zaq⟩,⟨_,aeK X G zbq⟩⟩;have FL:=GR (st:=uy) l28 c28 k28;refine⟨abP "law" "law" (dC uy) (bI uy) (ai uy) .none kV28 dc28 pm28 an28 cd28 ct28,λs v=>.of_eq rfl,λbase _ _=>?_⟩;have XT:Wg K mg jm:=⟨aeK X G p_,K3,K4⟩;exact RJ (P:=PySem.Challenge.pw_hushcards_k17_whole_closed_ones_stay) (w:=w) (base:=base) ⟨T,⟨cI Q.q0 X G,cI Q.q1 X G,cI Q.q2 X G,cI Q.q3 X G,cI Q.q4 X G,cI Q.q5 X G,cI Q.q6 X G,cI Q.q7 X G,cI Q.q8 X G,cI Q.q9 X G,cI Q.q10 X G,cI Q.q11 X G,cI Q.q12 X G,cI Q.q13 X G,cI Q.q14 X G,cI Q.q15 X G,cI Q.q16 X G,cI Q.q17 X G,cI Q.q18 X G,cI Q.q19 X G,cI Q.q20 X G,cI Q.q21 X G,cI Q.q22 X G,cI Q.q23 X G,cI Q.q24 X G,cI Q.q25 X G,cI Q.q26 X G,cI Q.q27 X G,cI Q.q28 X G⟩,XT⟩ FL hp
end Hc
namespace Hc
open L2
end Hc
namespace Hc
open L2
def O8 {f:Bool->Bool}{u w:U}:mj f u w=(Rz u w).bind λb=>.ok (.bl (f b)):=nr rfl
def yw {a b:Int}:Rz (.int a) (.int b)=.ok (a==b):=nr rfl
def b_:=zyy @aag.{0,0}<|zyy @acA.{0,0}<|zyy @aat.{0}<|zyy @adH.{0}<|zyy @afb.{0}<|zyy @ac9.{0}<|zyy @aei.{0}<|zyy @List.replicate_zero.{0}<|zyy @List.getElem?_cons_zero.{0}<|zyy @adj.{0}<|zyy @abw.{0}<|zyy @abx.{0}<|zyy @Option.getD_some.{0}<|zyy @if_true.{1}<|zyy @if_false.{1}<|zyy @aeF<|zyy @Ob<|zyy @afp<|zyy @Bool.not_false<|zyy @O8 @yw
end Hc
namespace Hc.Cn
open L2 Hc.Ts
noncomputable abbrev Rw:=List Int
noncomputable abbrev Dc:=List (Rw×Int)
noncomputable def bu (d:Dc)(k:Rw):Int:=((d.find? λp=>decide (p.1=k)).map (·.2)).getD 0
noncomputable def jg (d:Dc)(k:Rw)(v:Int):Dc:=if k∈d.map (·.1) then d.map (λp=>if p.1=k then (p.1,v) else p) else d++[(k,v)]
noncomputable def og (d:Dc)(k:Rw)(w:Int):Dc:=jg d k (bu d k+w)
noncomputable def cO (d:Dc)(f:Rw->Int):Int:=(d.map λp=>p.2*f p.1).sum
def Nd (d:Dc):Prop:=(d.map (·.1)).Nodup
def Ps (d:Dc):Prop:=∀p∈d,1<=p.2
def fN (p:Rw×Int)(d:Dc)(k:Rw):bu (p::d) k=if p.1=k then p.2 else bu d k:=by
 unfold bu;rw[aeD];by_cases c:p.1=k
 ·rw[hJ c,h9 c];rfl
 ·rw[hV c,hZ c]
theorem eD:∀{d:Dc} {k:Rw},k∉d.map (·.1)->bu d k=0
 | [],_,_=>rfl
 |p::d,k,h=>by
  rw[aag,aaw,not_or] at h;rw[fN,hZ (λe=>h.1 e.symm),eD h.2]
theorem eE:∀{d:Dc} {p:Rw×Int},Nd d->p∈d->bu d p.1=p.2
 |q::d,p,n,h=>by
  unfold Nd at n;rw[aag,abB] at n;rw[fN];rcases aaw.mp h with rfl|h
  ·rw[h9 rfl]
  ·have:q.1≠p.1:=λe=>n.1 (e▸aaI h);rw[hZ this];exact eE n.2 h
theorem fO {d:Dc}{k:Rw}(h:k∈d.map (·.1)):(k,bu d k)∈d:=by
 induction d with
 |nil=>cases h
 |cons q d ih=>
  rw[fN];by_cases c:q.1=k
  ·rw[h9 c,←c];exact aal
  ·rw[hZ c];rw[aag,aaw] at h;rcases h with h|h
   ·exact absurd h.symm c
   ·exact aan _ (ih h)
theorem kE (d:Dc)(k:Rw)(v:Int):(jg d k v).map (·.1)=if k∈d.map (·.1) then d.map (·.1) else d.map (·.1)++[k]:=by
 unfold jg;split
 ·rw[aaq];apply aaB;intro p _;show (if p.1=k then (p.1,v) else p).1=p.1;split<;>rfl
 ·rw[aaG];rfl
theorem RK {d:Dc}(k:Rw)(v:Int)(h:Nd d):Nd (jg d k v):=by
 unfold Nd at h ⊢;rw[kE];split
 ·exact h
 ·rename_i c;exact adS.mpr ⟨h,by simp,λa ha b hb=>by
   rw[aaK] at hb;subst hb;exact λe=>c (e▸ha)⟩
theorem RL {d:Dc}{k:Rw}{v:Int}(h:Ps d)(hv:1<=v):Ps (jg d k v):=by
 unfold jg;intro p hp;split at hp
 ·obtain⟨q,hq,rfl⟩:=aas.mp hp;split
  ·exact hv
  ·exact h q hq
 ·rcases aaQ.mp hp with hp|hp
  ·exact h p hp
  ·rw[aaK] at hp;subst hp;exact hv
theorem cJ {d:Dc}(h:Ps d)(k:Rw):0<=bu d k:=by
 by_cases c:k∈d.map (·.1)
 ·have:=h _ (fO c);lia
 ·rw[eD c];exact ae0 _
def sum_append (a b:List Int):(a++b).sum=a.sum+b.sum:=List.sum_append
theorem AD:∀{d:Dc} {k:Rw} {v:Int} (f:Rw->Int),Nd d->k∈d.map (·.1)->cO (d.map λp=>if p.1=k then (p.1,v) else p) f=cO d f+(v-bu d k)*f k
 |q::d,k,v,f,n,h=>by
  unfold Nd at n;rw[aag,abB] at n;unfold cO;rw[aag,aag,aag,aaV,aaV,fN];by_cases c:q.1=k
  ·rw[h9 c,h9 c];have e:(d.map λp=>if p.1=k then (p.1,v) else p)=d:=by
    conv=>rhs;rw[←aeh d]
    apply aaB;intro p hp;rw[hZ (λz=>n.1 (by rw[c,←z];exact aaI hp))];rfl
   rw[e,c];show v*f k+_=q.2*f k+_+(v-q.2)*f k;rw[Int.sub_mul];lia
  ·rw[hZ c,hZ c];have h':k∈d.map (·.1):=by
    rw[aag,aaw] at h;rcases h with h|h
    ·exact absurd h.symm c
    ·exact h
   have:=AD (v:=v) f n.2 h';unfold cO at this;lia
theorem JK {d:Dc}(k:Rw)(w:Int)(f:Rw->Int)(n:Nd d):cO (og d k w) f=cO d f+w*f k:=by
 unfold og jg;split
 ·rename_i c;rw[AD f n c];congr 2;lia
 ·rename_i c;unfold cO;rw[aaG,eD c];simp
noncomputable def aR (d:Dc)(ws:List (Rw×Int)):Dc:=ws.foldl (λd p=>og d p.1 p.2) d
theorem gT:∀(ws:List (Rw×Int)) {d:Dc},Nd d->Ps d->(∀p∈ws,1<=p.2)->Nd (aR d ws)/\Ps (aR d ws)/\∀f,cO (aR d ws) f=cO d f+(ws.map λp=>p.2*f p.1).sum
 | [],d,n,p,_=>⟨n,p,λf=>by show cO d f=_;simp⟩
 |q::ws,d,n,p,h=>by
  have n1:Nd (og d q.1 q.2):=RK _ _ n;have p1:Ps (og d q.1 q.2):=RL p (by have:=cJ p q.1;have:=h q aal;lia);obtain⟨a,b,c⟩:=gT ws n1 p1 λx hx=>h x (aan _ hx);refine⟨a,b,λf=>?_⟩;show cO (aR _ ws) f=_;rw[c f,JK _ _ _ n,aag,aaV];lia
theorem jh {d:Dc}(n:Nd d)(k:Rw):cO d (λx=>if x=k then 1 else 0)=bu d k:=by
 induction d with
 |nil=>rfl
 |cons q d ih=>
  have n':=n;unfold Nd at n';rw[aag,abB] at n';have:=ih n'.2;unfold cO at this ⊢;rw[aag,aaV,this,fN];show q.2*(if q.1=k then 1 else 0)+_=_;by_cases c:q.1=k
  ·rw[h9 c,h9 c,eD (c▸n'.1)];lia
  ·rw[hZ c,hZ c];lia
theorem oh:∀{d:Dc},Nd d->d.Nodup
 | [],_=>acv
 |q::d,n=>by
  unfold Nd at n;rw[aag,abB] at n;exact abB.mpr ⟨λh=>n.1 (aaI h),oh n.2⟩
theorem MX {d e:Dc}(nd:Nd d)(ne:Nd e)(pd:Ps d)(pe:Ps e)(h:∀f,cO d f=cO e f):d.Perm e:=by
 have half:∀{d e:Dc},Nd d->Nd e->Ps d->(∀f,cO d f=cO e f)->∀p∈d,p∈e:=by
  intro d e nd ne pd h p hp;have g1:=eE nd hp;have g2:=h λx=>if x=p.1 then 1 else 0
  rw[jh nd,jh ne,g1] at g2;by_cases c:p.1∈e.map (·.1)
  ·have:=fO c;rw[←g2] at this;exact this
  ·rw[eD c] at g2;have:=pd p hp;lia
 exact (ad0 (oh nd) (oh ne)).mpr λp=>⟨half nd ne pd h p,half ne nd pe (λf=>(h f).symm) p⟩
def FT {d e:Dc}(p:d.Perm e)(n:Nd d)(k:Rw):bu d k=bu e k:=by
 have ne:=(p.map _).nodup_iff.mp n;by_cases c:k∈d.map (·.1)
 ·have h1:=fO c;exact (eE ne (p.mem_iff.mp h1)).symm
 ·rw[eD c,eD λz=>c ((p.map (·.1)).mem_iff.mpr z)]
noncomputable def fe (d:Dc):Nat:=(d.map λp=>p.2.toNat).foldl ab_ 0
def FU {d e:Dc}(p:d.Perm e):fe d=fe e:=by
 refine (p.map _).foldl_eq' (λa _ b _ z=>?_) 0;rw[Nat.gcd_assoc,Nat.gcd_assoc,Nat.gcd_comm a b]
noncomputable def aW (d:Dc):Dc:=d.map λp=>(p.1,p.2 / (fe d:Int))
def uC {d e:Dc}(p:d.Perm e):(aW d).Perm (aW e):=by
 unfold aW;rw[FU p];exact p.map _
noncomputable def mG (d:Dc):Int:=(d.map (·.2)).sum
theorem oj {a b:List Int}(p:a.Perm b):a.sum=b.sum:=by
 induction p with
 |nil=>rfl
 |cons x _ ih=>rw[aaV,aaV,ih]
 |swap x y l=>rw[aaV,aaV,aaV,aaV];lia
 |trans _ _ i1 i2=>rw[i1,i2]
def wJ {d e:Dc}(p:d.Perm e):mG d=mG e:=oj (p.map (·.2))
noncomputable def pR (d:Dc):List Rw:=(bG (d.map (·.1))).flatMap λk=>aa9 (bu d k).toNat k
def iY {a b:List Rw}(p:a.Perm b):bG a=bG b:=yb (((ba a).trans p).trans (ba b).symm) (nM a) (nM b)
def wK {d e:Dc}(p:d.Perm e)(n:Nd d):pR d=pR e:=by
 unfold pR;rw[iY (p.map (·.1))];congr 1;funext k;rw[FT p n]
theorem MY {d:Dc}(n:Nd d)(p:∀q∈d,0<=q.2):((pR d).length:Int)=mG d:=by
 have e1:∀l:List Rw,((l.flatMap λk=>aa9 (bu d k).toNat k).length:Int)=(l.map λk=>((bu d k).toNat:Int)).sum:=by
  intro l
  induction l with
  |nil=>rfl
  |cons k l ih=>rw[abL,aaj,acw,aag,aaV,←ih];lia
 unfold pR;rw[e1,oj ((ba _).map _),aaq];congr 1;apply aaB;intro q hq;show ((bu d q.1).toNat:Int)=q.2;rw[eE n hq];have:=p q hq;lia
def jQ {d:Dc}(n:Nd d):Nd (aW d):=by
 unfold Nd aW at *;rw[aaq];exact n
noncomputable def aF (l:List Rw):Dc:=aR [] (l.map λx=>(x,1))
theorem iZ:Nd []/\Ps []:=⟨acv,λp hp=>by cases hp⟩
theorem bM (l:List Rw):Nd (aF l)/\Ps (aF l)/\∀f,cO (aF l) f=(l.map f).sum:=by
 obtain⟨a,b,c⟩:=gT (l.map λx=>(x,(1:Int))) iZ.1 iZ.2 λp hp=>by
  obtain⟨x,_,rfl⟩:=aas.mp hp;exact ae0 _
 refine⟨a,b,λf=>?_⟩;have:=c f;rw[aaq] at this;unfold aF;rw[this];show (0:Int)+_=_;rw[Int.zero_add];congr 1;apply aaB;intro x _;show 1*f x=f x;lia
noncomputable def gE (K5:Rw->Rw->Rw)(c e:Dc):List (Rw×Int):=c.flatMap λa=>e.map λb=>(K5 a.1 b.1,a.2*b.2)
theorem ji {α β:Type}(g:α->List β)(h:β->Int):∀l:List α,((l.flatMap g).map h).sum=(l.map λa=>((g a).map h).sum).sum
 | []=>rfl
 |a::l=>by rw[abL,aaG,sum_append,aag,aaV,ji g h l]
theorem jR (k:Int):∀l:List Int,(l.map λx=>k*x).sum=k*l.sum
 | []=>by simp
 |x::l=>by rw[aag,aaV,aaV,jR k l,Int.mul_add]
def FV (K5:Rw->Rw->Rw)(c e:Dc)(f:Rw->Int):((gE K5 c e).map λp=>p.2*f p.1).sum=cO c λa=>cO e λb=>f (K5 a b):=by
 unfold gE;rw[ji];unfold cO;congr 1;apply aaB;intro a _;rw[aaq,←jR,aaq];congr 1;apply aaB;intro b _;exact adk ..
noncomputable def gf (K5:Rw->Rw->Rw)(l m:List Rw):List Rw:=l.flatMap λa=>m.map λb=>K5 a b
theorem wL {K5:Rw->Rw->Rw}{c e:Dc}(pc:Ps c)(pe:Ps e):∀p∈gE K5 c e,1<=p.2:=by
 intro p hp;obtain⟨a,ha,hp⟩:=acI.mp hp;obtain⟨b,hb,rfl⟩:=aas.mp hp;have h1:=pc a ha;have h2:=pe b hb;have:=afT h1 h2 (by lia) (by lia);lia
theorem wM (K5:Rw->Rw->Rw)(l m:List Rw):(aR [] (gE K5 (aF l) (aF m))).Perm (aF (gf K5 l m)):=by
 obtain⟨n1,p1,s1⟩:=bM l;obtain⟨n2,p2,s2⟩:=bM m;obtain⟨n3,p3,s3⟩:=bM _;obtain⟨n4,p4,s4⟩:=gT _ iZ.1 iZ.2 (wL p1 p2);refine MX n4 n3 p4 p3 λf=>?_;rw[s4 f,s3 f,FV,s1];show (0:Int)+_=_;rw[Int.zero_add];unfold gf;rw[ji];congr 1;apply aaB;intro a _;rw[s2,aaq];rfl
theorem om (l:List Rw):mG (aF l)=l.length:=by
 obtain⟨n,p,s⟩:=bM l;have:=s λ_=>1;unfold cO at this;unfold mG;have e:((aF l).map λp=>p.2*1)=(aF l).map (·.2):=by
  apply aaB;lia
 rw[e] at this;rw[this];clear this e s p n
 induction l with
 |nil=>rfl
 |cons x l ih=>rw[aag,aaV,ih,aat];lia
theorem RM {l:List Int}(h:∀x∈l,0<=x):∀x∈l,x<=l.sum:=by
 induction l with
 |nil=>intro x hx;cases hx
 |cons y l ih=>
  intro x hx;have hl:0<=l.sum:=by
   clear ih hx
   induction l with
   |nil=>exact ae0 _
   |cons z l ih2=>
    rw[aaV];have:=ih2 λw hw=>h w (by rcases aaw.mp hw with e|e;exact e▸aal;exact aan _ (aan _ e));have:=h z (aan _ aal);lia
  rw[aaV];rcases aaw.mp hx with rfl|hx
  ·lia
  ·have:=ih (λw hw=>h w (aan _ hw)) x hx;have:=h y aal;lia
theorem JL {d:Dc}(p:Ps d):∀q∈d,q.2<=mG d:=λq hq=>RM (λx hx=>by
 obtain⟨r,hr,rfl⟩:=aas.mp hx;have:=p r hr;lia) q.2 (aaI hq)
theorem jS:∀{d:Dc},Ps d->(d.length:Int)<=mG d
 | [],_=>ae0 _
 |q::d,p=>by
  have:=jS λr hr=>p r (aan _ hr);have:=p q aal;unfold mG at *;rw[aat,aag,aaV];lia
end Hc.Cn
variable {l ss L F:List Hc.Cn.Rw}{d:Hc.Cn.Dc}
namespace Hc
open L2
open Hc.Cn Hc.Ts
def NS:(0:Nat)<=aah/\(1:Nat)<=aah/\(2:Nat)<=aah/\(3:Nat)<=aah/\(4:Nat)<=aah/\(5:Nat)<=aah/\(6:Nat)<=aah/\(10:Nat)<=aah/\(16:Nat)<=aah/\(18:Nat)<=aah/\(22:Nat)<=aah:=by decide
def Pzz:=zyy @aw<|zyy @b_ @NS
theorem de {α:Type}{f:U->R (Option U)}{c g:α->U}:∀{xs:List α},(∀x∈xs,f (c x)=.ok (some (g x)))->yO f (xs.map c)=.ok (xs.map g)
 | [],_=>rfl
 |x::xs,h=>by
  rw[aag];unfold yO;rw[h x aal];rw[de λy hy=>h y (aan _ hy)];rfl
def O9 {ws:List U}:fR (.lst us) [.lst ws]=if us.length+ws.length<=aah then .ok (.non,.lst (us++ws)) else .stk:=nr rfl
theorem jj (us:List U)(k:Nat):iD us none (some (k:Int))=us.take k:=by
 unfold iD;rw[HT.sIx_none,HT.sIx_nat,List.drop_zero,Nat.sub_zero];rcases Nat.le_total k us.length with h|h
 ·rw[acf h]
 ·rw[Nat.min_eq_right h,abh,abN h]
theorem kF (us:List U)(k:Nat):iD us (some (k:Int)) none=us.drop k:=by
 unfold iD;rw[HT.sIx_none,HT.sIx_nat];rcases Nat.le_total k us.length with h|h
 ·rw[acf h,abN (by rw[abb];lia)]
 ·rw[Nat.min_eq_right h,adq,List.drop_of_length_le h,List.take_nil]
def rV (s:U):Prop:=∃v b,s=.lst [.int v,.bl b]/\0<=v/\(b=false->v<2147483647)
theorem fV {s:U}{m:Int}(h:rV s)(h0:0<m)(h1:m<18446744073709551616):∃r s',aG [s,.int m]=.ok (.int r,s')/\0<=r/\r<m/\rV s':=by
 obtain⟨v,b,rfl,hv,hb⟩:=h;cases b with
 |true=>
  refine⟨v % m,.lst _,?_,adL _ (by lia),adC _ h0,v / m,true,rfl,Int.ediv_nonneg hv (by lia),λh=>nomatch h⟩;simp only[aG,iM,Pzz,dG,hJ h0,rQ h0 h1]
 |false=>
  have g1:0<=(v*48271+29) % 2147483647:=adL _ (by decide);have g2:(v*48271+29) % 2147483647<2147483647:=adC _ (by decide);have c1:jy v 48271=true:=ph (by decide) (by decide);have d1:decide ((0:Int)<2147483647)=true:=by decide
  have d2:decide ((0:Int)<2147483629)=true:=by decide
  have d3:decide ((0:Int)<2147483587)=true:=by decide
  have e8:vn (((((v*48271+29) % 2147483647)*((v*48271+29) % 2147483647)+39373*((v*48271+29) % 2147483647)+7) % 2147483629*((((v*48271+29) % 2147483647)*((v*48271+29) % 2147483647)+39373*((v*48271+29) % 2147483647)+7) % 2147483629)+16807*((((v*48271+29) % 2147483647)*((v*48271+29) % 2147483647)+39373*((v*48271+29) % 2147483647)+7) % 2147483629)) % 2147483587) 8=true:=rQ (by decide) (by decide);have c2:jy _ ((v*48271+29) % 2147483647)=true:=tq g1 (by lia);have c3:jy 39373 ((v*48271+29) % 2147483647)=true:=tq (by decide) (by decide);generalize hs:(v*48271+29) % 2147483647=s1 at *;have g3:0<=(s1*s1+39373*s1+7) % 2147483629:=adL _ (by decide);have c4:jy _ ((s1*s1+39373*s1+7) % 2147483629)=true:=tq g3 (by lia);have c5:jy 16807 ((s1*s1+39373*s1+7) % 2147483629)=true:=tq (by decide) (by decide);refine⟨((s1*s1+39373*s1+7) % 2147483629*((s1*s1+39373*s1+7) % 2147483629)+16807*((s1*s1+39373*s1+7) % 2147483629)) % 2147483587 / 8 % m,.lst _,?_,adL _ (by lia),adC _ h0,s1,false,rfl,g1,λ_=>g2⟩
  ·simp only[aG,iM,Pzz,dG,hJ h0,c1,d1,d2,d3,hs,c2,c3,c4,c5,e8]
theorem JM {us:List U}{k:Int}(hu:u=.scr (ns.map .int)\/u=.lst (ns.map .int))(h0:0<=k):∃s,dX [u,.int k]=.ok s/\rV s:=by
 obtain⟨k,rfl⟩:∃n:Nat,k=n:=⟨k.toNat,by lia⟩;have wU:∃c:Int,dN [u,.int k]=.ok (.int c):=by
  by_cases hk:k<ns.length
  ·refine⟨ns[k],?_⟩;have d:decide ((k:Int)<((ns.map U.int).length:Nat))=true:=by rw[aab];exact hJ (by lia)
   have e:mP (ns.map U.int) (k:Int)=some (.int ns[k]):=by rw[we,aar,aac hk];rfl
   rcases hu with rfl|rfl<;>simp only[dN,fu,Pzz,dG,d,e]
  ·refine⟨0,?_⟩;have d:decide ((k:Int)<((ns.map U.int).length:Nat))=false:=by rw[aab];exact hV (by lia)
   rcases hu with rfl|rfl<;>simp only[dN,fu,Pzz,dG,d]
 obtain⟨c,hc⟩:=wU;have Zl:L6 10 18=true:=by decide
 have Zm:(10:Int) ^ (18:Int).toNat=1000000000000000000:=by decide
 have dm:decide ((0:Int)<2147483647)=true:=by decide
 by_cases h:1000000000000000000<=c
 ·refine⟨.lst [.int (c-1000000000000000000),.bl true],?_,_,true,rfl,by lia,λh=>nomatch h⟩;simp only[dX,gK,Pzz,dG,Nat.reduceAdd,hc,Zl,Zm,hJ h]
 ·refine⟨.lst [.int (c % 2147483647),.bl false],?_,_,false,rfl,adL _ (by decide),λ_=>adC _ (by decide)⟩;simp only[dX,gK,Pzz,dG,Nat.reduceAdd,hc,Zl,Zm,hV h,dm]
theorem uD {α:Type}:∀(l:List α) (i:Nat) (h:i<l.length),(l[i]::l.eraseIdx i).Perm l
 |x::l,0,_=>acd _
 |x::l,i+1,h=>by
  have h' :=by simpa using h
  exact (List.Perm.swap _ _ _).trans (List.Perm.cons x (uD l i h'))
theorem oq {α β:Type}(f:α->β):∀(l:List α) (i:Nat),(l.map f).eraseIdx i=(l.eraseIdx i).map f
 | [],_=>rfl
 |_::_,0=>rfl
 |x::l,i+1=>by
  show f x::(l.map f).eraseIdx i=f x::(l.eraseIdx i).map f;rw[oq f l i]
theorem RN {k:Int}{y:U}(h1:afY k us.length=some j)(h2:us[j]? = some y)(h3:0<=k)(h4:k<1000000000):o_ (.lst us) [.int k]=.ok (y,.lst (us.eraseIdx j)):=by
 unfold o_;dsimp only;rw[h9 (by lia),h1];dsimp only;rw[h2]
def cw (n:Nat)(os:List Int):Prop:=os.Perm (au n)
theorem ou {s:U}(h:rV s)(h1:m<=1000):∃(os:List Int) (s':U),bA [s,.int m]=.ok (.tup (os.map .int),s')/\cw m os/\rV s':=by
 obtain⟨ys,⟨left,s'⟩,e,l,os,hr,hp,oN⟩:=kq (G:=jM) (js:=[none,some 2,some 0]) (sg:=bB 0) (ge:=gM "list" 1 o_ (af (m7 2 2 aG (af (gq iR (af (ae 1) ao)) ao)) ao))
  (λx:List Int×U=>[some x.2,some (.int m),some (.lst (x.1.map .int))]) m (λys x=>∃os:List Int,ys=os.map .int/\(os++x.1).Perm (au m)/\rV x.2)
  (λdone u x hd h00=>by
   obtain⟨os,hr,hp,hs⟩:=h00;obtain⟨left,s⟩:=x;have hl:0<left.length:=by
    have:=hp.length_eq;rw[aaj,bC] at this;have h2:done.length=os.length:=by rw[hr,aab]
    dsimp only at this;lia
   have Gp:left.length<=m:=by
    have:=hp.length_eq;rw[aaj,bC] at this;dsimp only at this;lia
   obtain⟨r,s',b1,b2,b3,b4⟩:=fV (m:=left.length) hs (by lia) (by lia);obtain⟨k,rfl⟩:∃n:Nat,r=n:=⟨r.toNat,by lia⟩;have hk:k<left.length:=by lia
   refine⟨[some u,some _,some s],.int left[k],[some u,some _,some s'],(left.eraseIdx k,s'),rfl,?_,rfl,os++[left[k]],by rw[hr,aaG];rfl,?_,b4⟩
   ·have hx:afY (k:Int) (left.map U.int).length=some k:=by
     unfold afY;simp;lia
    have hy:(left.map U.int)[k]? = some (.int left[k]):=by rw[aar,aac hk];rfl
    have pp:=RN hx hy (by lia) (by lia);rw[oq] at pp;simp only[Pzz,aab,b1,pp]
   ·rw[aaP];refine age.trans (ab8 os ?_) hp;exact uD left k hk) (aP 0 m) [] (au m,s) (by rw[bq];simp) ⟨[],rfl,acd _,h⟩
 rw[bq] at l;have ln:=by
  have:=congrArg afs hr;rw[ac9,aab] at this;omega
 have le:left=[]:=by
  have:=hp.length_eq;rw[aaj,bC] at this;dsimp only at this;exact abJ (by omega)
 subst le;rw[aa2] at hp;rw[ac9] at hr;refine⟨os,s',?_,hp,oN⟩;rw[hr] at e;simp only[bA,jN,Pzz,dG,g9 m (by lia),xM m (by lia),dJ] at e ⊢;simp only[Pzz,e]
noncomputable def tO (os:List Int):U:=.tup (os.map .int)
def kG (n:Nat):aP 0 n=(aa7 n).map λi=>U.int (i:Nat):=by
 rw[dJ];unfold au;rw[aaq];rfl
def AE (n:Nat):au (n+1)=au n++[(n:Int)]:=by
 unfold au;rw[List.range_succ,aaG];rfl
def AF {z:Nat}(h:z<=m):(au m).take z=au z:=by
 unfold au;rw[←adl,List.take_range,acf h]
def Ec (us:List U)(a b:Nat)(h:a<=b)(h2:b<=us.length):iD us (some (a:Int)) (some (b:Int))=(us.drop a).take (b-a):=by
 unfold iD;rw[HT.sIx_nat,HT.sIx_nat,acf h2,acf (aaR h h2)]
noncomputable def Wh:Nat->Nat
 |0=>1
 |n+1=>Wh n*(n+1)
def JN {os:List Int}(h:os.Perm (au k)):(os.take j++[(k:Int)]++os.drop j).Perm (au (k+1)):=by
 rw[AE,aaP];refine (abD).trans ?_;have:(os.drop j++os.take j).Perm (au k):=(abD).trans (by rw[abg];exact h);exact ((ab8 [(k:Int)] this)).trans abD
theorem MZ {a b c d e f g:Option U}{mO:List (List Int)}(hk:k<=8)(hl:mO.length<=1000)(hp:∀os∈mO,os.Perm (au k))(v4:Option U) :
  ∃(ls:List (List Int)) (v4':Option U),d6 (bB 4) (m9 (gM "list" 9 fR (af (f6 (fB (af (bb cB (ae 8) (gC (.int 1))) ao)) [none,some 4,some 8] (bB 0) cR (bb cB (bb cB (lY ki (ae 1) cW (bY (ae 0))) (eC (af (ae 2) ao))) (lY ki (ae 1) (bY (ae 0)) cW))) ao))) (mO.map tO)
   [a,b,c,d,v4,e,f,g,some (.int k),some (.lst [])]=.nx [a,b,c,d,v4',e,f,g,some (.int k),some (.lst (ls.map tO))]/\ls.length=mO.length*(k+1)/\∀os∈ls,os.Perm (au (k+1)):=by
 obtain⟨ρ',e1,ls,v,e2,l2,p2⟩:=bF (sg:=bB 4) (s:=m9 (gM "list" 9 fR (af (f6 (fB (af (bb cB (ae 8) (gC (.int 1))) ao)) [none,some 4,some 8] (bB 0) cR (bb cB (bb cB (lY ki (ae 1) cW (bY (ae 0))) (eC (af (ae 2) ao))) (lY ki (ae 1) (bY (ae 0)) cW))) ao)))
  (λi ρ=>∃(ls:List _) (v:Option U),ρ=[a,b,c,d,v,e,f,g,some (.int k),some (.lst (ls.map tO))]/\ls.length=i*(k+1)/\∀os∈ls,os.Perm (au (k+1)))
  (λi u ρ hu h00=>by
   obtain⟨ls,v,hr,Gp,Gh⟩:=h00;subst hr;rw[aar] at hu;cases ho:mO[i]? with
   |none=>rw[ho] at hu;cases hu
   |some os=>
    rw[ho] at hu;cases hu;have Lg:=hp os (aaZ ho);have lo:=by have:=Lg.length_eq;rwa [bC] at this
    have hi:i<mO.length:=by
     rcases adJ i _ with z|z
     ·exact z
     ·rw[aby.mpr z] at ho;cases ho
    have sz:aah=16777216:=rfl;have e0:yO (xw [none,some 4,some 8] (bB 0) cR (bb cB (bb cB (lY ki (ae 1) cW (bY (ae 0))) (eC (af (ae 2) ao))) (lY ki (ae 1) (bY (ae 0)) cW)) [a,b,c,d,some (tO os),e,f,g,some (.int k),some (.lst (ls.map tO))]) ((aa7 (k+1)).map λi=>U.int (i:Nat))=.ok ((aa7 (k+1)).map λj=>tO (os.take j++[(k:Int)]++os.drop j)):=
     de λj hj=>by
      have q1:((os.map U.int).take j).length+1<=aah:=by rw[aaE,aab];lia
      have q2:((os.map U.int).take j++[U.int k]).length+((os.map U.int).drop j).length<=aah:=by rw[aaj,aaE,abb,aab,adG];lia
      simp only[Pzz,Nat.reduceAdd,tO,jj,kF,q1,q2];simp only[aaG,adl,aeL,aag,acA]
    have hm:i*(k+1)<=1000*9:=ae2 (by lia) (by lia);have q3:(ls.map tO).length+((aa7 (k+1)).map λj=>tO (os.take j++[(k:Int)]++os.drop j)).length<=aah:=by
     rw[aab,aab,abd];lia
    have ek:(k:Int)+1=((k+1:Nat):Int):=rfl;refine⟨[a,b,c,d,some (tO os),e,f,g,some (.int k),some _],[a,b,c,d,some (tO os),e,f,g,some (.int k),some (.lst ((ls++(aa7 (k+1)).map λj=>os.take j++[(k:Int)]++os.drop j).map tO))],rfl,.inl ?_,_,_,rfl,?_,?_⟩
    ·simp only[Pzz,ek,g9 (k+1) (by lia),kG,e0,O9,q3];simp only[aaG,aaq];rfl
    ·rw[aaj,aab,abd,Gp,Nat.add_mul,Nat.one_mul]
    ·intro x hx;rcases aaQ.mp hx with z|z
     ·exact Gh x z
     ·obtain⟨j,_,rfl⟩:=aas.mp z;exact JN Lg) ⟨[],v4,rfl,by simp,λx hx=>by cases hx⟩
 subst e2;rw[aab] at l2;exact⟨ls,v,e1,l2,p2⟩
def JO (l:List Int)(k:Nat):(l.drop k++l.take k).Perm l:=(abD).trans (by rw[abg])
def FW (l:List Int)(h:Nat):(((l.drop h).take h++l.take h)++l.drop (h+h)).Perm l:=by
 have e:l=l.take h++((l.drop h).take h++l.drop (h+h)):=by
  rw[←afS,abg,abg]
 have p:((l.drop h).take h++l.take h).Perm _:=abD;refine (abZ _ p).trans ?_;rw[aaP,←e]
def k_ (m:Nat)(r:R (U×U)):Prop:=∃(mO:List (List Int)) (s':U),r=.ok (.tup (mO.map tO),s')/\(∀os∈mO,cw m os)/\1<=mO.length/\mO.length<=24/\rV s'
theorem M3 {s:U}{w:Int}(h8:m<=8)(e1:aG [s,.int 6]=.ok (.int w,s1))(u6:rV s1)(hw:w=4\/w=5):k_ m (aQ [s,.int m]):=by
 obtain⟨t,s2,e2,t0,t1,qN⟩:=fV (m:=4) u6 (by decide) (by decide);obtain⟨n,hn⟩:∃n:Nat,1+t=n:=⟨(1+t).toNat,by lia⟩;obtain⟨ys,s3,e3,ly,mO,hy,ho,hs3⟩:=kq (G:=ir) (js:=[none,some 0,some 1]) (sg:=bB 0) (ge:=m7 2 1 bA (af (ae 2) ao))
  (λx:U=>[some x,some (.int m),some (.tup (aP 0 m)),some (.int w),none,none,none,none,none,none]) n (λys x=>∃mO:List _,ys=mO.map tO/\(∀os∈mO,cw m os)/\rV x)
  (λdone u x hd h00=>by
   obtain⟨mO,hr,hp,hs⟩:=h00;obtain⟨os,x',b1,b2,b3⟩:=ou (m:=m) hs (by lia);refine⟨[some u,some x,some (.int m)],tO os,[some u,some x',some (.int m)],x',rfl,?_,rfl,mO++[os],by rw[hr,aaG];rfl,?_,b3⟩
   ·simp only[Pzz,b1,tO]
   ·intro y hy;rcases aaQ.mp hy with z|z
    ·exact hp y z
    ·rw[aaK.mp z];exact b2) (aP 0 n) [] s2 (by rw[bq];simp) ⟨[],rfl,(λx hx=>by cases hx),qN⟩
 rw[ac9] at hy;rw[bq] at ly;have lo:=by
  have:=congrArg afs hy;rw[aab] at this;omega
 refine⟨mO,s3,?_,ho,by omega,by omega,hs3⟩;rw[hy] at e3;rcases hw with rfl|rfl<;>simp only[aQ,cE,Pzz,dG,jE m (by lia),e1,Int.reduceBEq,id,e2,hn,g9 n (by lia),e3]
theorem RO {s:U}(h1:1<=m)(h8:m<=8)(e1:aG [s,.int 6]=.ok (.int 0,s1))(u6:rV s1):k_ m (aQ [s,.int m]):=by
 have sz:aah=16777216:=rfl;have e0:=by
  have:=de (f:=xw [none,some 2] (bB 0) cR (bb cB (lY ki (ae 1) (bY (ae 0)) cW) (lY ki (ae 1) cW (bY (ae 0)))) [some s1,some (.int m),some (.tup (aP 0 m)),some (.int 0),none,none,none,none,none,none])
   (c:=λi:Nat=>U.int (i:Nat)) (g:=λk=>.tup ((aP 0 m).drop k++(aP 0 m).take k)) (xs:=aa7 m) λk hk=>by
    have q:((aP 0 m).drop k).length+((aP 0 m).take k).length<=aah:=by rw[abb,aaE,bq];lia
    simp only[Pzz,jj,kF,q]
  rwa [←kG] at this
 refine⟨(aa7 m).map λk=>(au m).drop k++(au m).take k,s1,?_,?_,by rw[aab,abd];exact h1,by rw[aab,abd];lia,u6⟩
 ·simp only[aQ,cE,Pzz,dG,jE m (by lia),e1,Int.reduceBEq,id,g9 m (by lia),e0];rw[aaq];congr 4;funext k;show U.tup _=tO _;unfold tO;rw[dJ,aaG,aeL,adl]
 ·intro os ho;obtain⟨k,_,rfl⟩:=aas.mp ho;exact JO _ _
theorem RP {s:U}(h8:m<=8)(e1:aG [s,.int 6]=.ok (.int 1,s1))(u6:rV s1):k_ m (aQ [s,.int m]):=by
 obtain⟨os,s2,b1,b2,b3⟩:=ou (m:=m) u6 (by lia);refine⟨[au m,os],s2,?_,?_,by simp,by simp,b3⟩
 ·simp only[aQ,cE,Pzz,dG,Nat.reduceAdd,jE m (by lia),e1,Int.reduceBEq,id,b1,tO,dJ]
 ·intro x hx;simp only[aaw,acW,or_false] at hx;rcases hx with rfl|rfl
  ·exact acd _
  ·exact b2
theorem M4 {s:U}(h1:1<=m)(h8:m<=8)(e1:aG [s,.int 6]=.ok (.int 2,s1))(u6:rV s1):k_ m (aQ [s,.int m]):=by
 have sz:aah=16777216:=rfl;have d1:vn (m:Int) 2=true:=rQ (by decide) (by decide);have d2:jy 2 ((m / 2:Nat):Int)=true:=tq (by decide) (by decide);have e2:(m:Int) / 2=((m / 2:Nat):Int):=by lia
 have e3:(2:Int)*((m / 2:Nat):Int)=((m / 2+m / 2:Nat):Int):=by lia
 have c1:iD (aP 0 m) (some ((m / 2:Nat):Int)) (some ((m / 2+m / 2:Nat):Int))=((aP 0 m).drop (m / 2)).take (m / 2):=by
  rw[Ec _ _ _ (by lia) (by rw[bq];lia),Nat.add_sub_cancel]
 have q1:(((aP 0 m).drop (m / 2)).take (m / 2)).length+((aP 0 m).take (m / 2)).length<=aah:=by rw[aaE,aaE];lia
 have q2:(((aP 0 m).drop (m / 2)).take (m / 2)++(aP 0 m).take (m / 2)).length+((aP 0 m).drop (m / 2+m / 2)).length<=aah:=by rw[aaj,aaE,abb,aaE,abb,bq];lia
 refine⟨[au m,((au m).drop (m / 2)).take (m / 2)++(au m).take (m / 2)++(au m).drop (m / 2+m / 2)],s1,?_,?_,by simp,by simp,u6⟩
 ·simp only[aQ,cE,Pzz,dG,Nat.reduceAdd,jE m (by lia),e1,Int.reduceBEq,id,d1,e2,d2,e3,c1,jj,kF,q1,q2];simp only[tO,aaG,adl,aeL,dJ]
 ·intro x hx;simp only[aaw,acW,or_false] at hx;rcases hx with rfl|rfl
  ·exact acd _
  ·exact FW _ _
theorem O_ (h:n<=4):1<=Wh n/\Wh n<=24:=by
 have:n=0\/n=1\/n=2\/n=3\/n=4:=by lia
 rcases this with rfl|rfl|rfl|rfl|rfl<;>decide
theorem RQ {s:U}(h1:1<=m)(h8:m<=8)(e1:aG [s,.int 6]=.ok (.int 3,s1))(u6:rV s1):k_ m (aQ [s,.int m]):=by
 have sz:aah=16777216:=rfl;obtain⟨t,s2,e2,t0,t1,qN⟩:=fV (m:=3) u6 (by decide) (by decide);obtain⟨z,hz⟩:∃z:Nat,(if 2+t<(m:Int) then 2+t else (m:Int))=z:=⟨(if 2+t<(m:Int) then 2+t else (m:Int)).toNat,by split<;>lia⟩;have zb:1<=z/\z<=4/\z<=m:=by split at hz<;>lia
 obtain⟨ρ',e3,mO,v4,v8,rfl,l3,p3⟩:=bF (sg:=bB 8) (s:=(aH (aY 9 (dI ao))
 (aH (fm (fj (ae 6)) (bB 4)
 (m9 (gM "list" 9 fR (af (f6 (fB (af (bb cB (ae 8) (gC (.int 1))) ao)) [none,some 4,some 8] (bB 0) cR (bb cB (bb cB (lY ki (ae 1) cW (bY (ae 0))) (eC (af (ae 2) ao))) (lY ki (ae 1) (bY (ae 0)) cW))) ao))))
 (sQ 6 9))))
  (λi ρ=>∃(mO:List _) (v4 v8:Option U),ρ=[some s2,some (.int m),some _,some (.int 3),v4,none,some (.lst (mO.map tO)),some (.int z),v8,none]/\mO.length=Wh i/\∀os∈mO,os.Perm (au i))
  (λi u ρ hu h00=>by
   obtain⟨mO,v4,v8,hr,hl,hp⟩:=h00;subst hr;have hi:i<z:=by
    rcases adJ i z with y|y
    ·exact y
    ·rw[aby.mpr (by rw[bq];exact y)] at hu;cases hu
   obtain rfl:u=.int i:=by
    rw[kG,aar,aej hi] at hu;cases hu;rfl
   obtain⟨ls,v4',g1,g2,g3⟩:=MZ (a:=some s2) (b:=some (.int m)) (c:=some (.tup (aP 0 m))) (d:=some (.int 3)) (e:=none) (f:=some (.lst (mO.map tO))) (g:=some (.int z)) (by lia) (by have:=O_ (n:=i) (by lia);lia) hp v4;refine⟨[some s2,some (.int m),some _,some (.int 3),v4,none,some _,some (.int z),some (.int i),none],[some s2,some (.int m),some _,some (.int 3),v4',none,some _,some (.int z),some (.int i),none],rfl,.inl ?_,ls,v4',some (.int i),rfl,by rw[g2,hl];rfl,g3⟩;simp only[Pzz,g1])
  (ρ:=[some s2,some (.int m),some (.tup (aP 0 m)),some (.int 3),none,none,some (.lst [.tup []]),some (.int z),none,none]) ⟨[[]],none,none,rfl,rfl,λx hx=>by rw[aaK.mp hx];exact acd _⟩
 rw[bq] at l3 p3;have e4:yO (xw [none,some 2,some 7] (bB 0) cR (bb cB (ae 0) (lY ki (ae 1) (bY (ae 2)) cW)) [some s2,some (.int m),some (.tup (aP 0 m)),some (.int 3),v4,none,some (.lst (mO.map tO)),some (.int z),v8,none]) (mO.map tO)=.ok (mO.map λos=>tO (os++(au m).drop z)):=
  de λos ho=>by
   have lo:=by have:=(p3 os ho).length_eq;rwa [bC] at this
   have q:(os.map U.int).length+((aP 0 m).drop z).length<=aah:=by rw[aab,abb,bq];lia
   simp only[Pzz,tO,kF,q];simp only[aaG,aeL,dJ]
 have fb:=O_ zb.2.1;refine⟨mO.map λos=>os++(au m).drop z,s2,?_,?_,by rw[aab];lia,by rw[aab];lia,qN⟩
 ·simp only[aQ,cE,Pzz,dG,Nat.reduceAdd,jE m (by lia),e1,Int.reduceBEq,id,e2,hz,g9 z (by lia),e3,e4];rw[aaq];rfl
 ·intro x hx;obtain⟨os,ho,rfl⟩:=aas.mp hx;have:(au m)=au z++(au m).drop z:=by
   rw[←AF zb.2.2,abg]
  refine (abZ _ (p3 os ho)).trans ?_;rw[←this]
theorem Co {s:U}(h:rV s)(h1:1<=m)(h8:m<=8):k_ m (aQ [s,.int m]):=by
 obtain⟨w,s1,e1,w0,w1,u6⟩:=fV (m:=6) h (by decide) (by decide);have hw:w=0\/w=1\/w=2\/w=3\/w=4\/w=5:=by lia
 rcases hw with rfl|rfl|rfl|rfl|hw
 ·exact RO h1 h8 e1 u6
 ·exact RP h8 e1 u6
 ·exact M4 h1 h8 e1 u6
 ·exact RQ h1 h8 e1 u6
 ·exact M3 h8 e1 u6 hw
theorem RS {s:U}(h:rV s)(h1:m<=1000):∃(row:List Int) (s':U),eZ [s,.int m]=.ok (.tup (row.map .int),s')/\row.length=m/\(∀c∈row,0<=c/\c<10)/\rV s':=by
 obtain⟨way,s1,e1,w0,w1,Pz⟩:=fV (m:=4) h (by decide) (by decide);have key:∀(js:List _) (ge:Ev->R (U×Ev)) (s1:U),rV s1->(∀u s,rV s->∃ρi r ρi' s',bB 0 u (i9 js [some s,some (.int m),some (.int way)])=.ok ρi/\ge ρi=.ok (.int r,ρi')/\wb iu js ρi' [some s,some (.int m),some (.int way)]=[some s',some (.int m),some (.int way)]/\0<=r/\r<10/\rV s')->
   ∃(row:List Int) (s':U),qW iu js (bB 0) cR ge (aP 0 m) [some s1,some (.int m),some (.int way)]=.ok (row.map .int,[some s',some (.int m),some (.int way)])/\row.length=m/\(∀c∈row,0<=c/\c<10)/\rV s':=by
  intro js ge s1 u6 VY;obtain⟨ys,s',e,l,row,hr,hc,oN⟩:=kq _ m (λys s=>∃row:List Int,ys=row.map .int/\(∀c∈row,0<=c/\c<10)/\rV s)
   (λdone u s _ h00=>by
    obtain⟨row,hr,hc,hs⟩:=h00;obtain⟨ρi,r,ρi',s',a1,a2,a3,a4,a5,a6⟩:=VY u s hs;refine⟨ρi,.int r,ρi',s',a1,a2,a3,row++[r],by rw[hr,aaG];rfl,λc Wq=>?_,a6⟩;rcases aaQ.mp Wq with z|z
    ·exact hc c z
    ·rw[aaK.mp z];exact⟨a4,a5⟩) (aP 0 m) [] s1 (by rw[bq];simp) ⟨[],rfl,(λc hc=>by cases hc),u6⟩
  rw[bq] at l;refine⟨row,s',by rw[e,←hr];rfl,?_,hc,oN⟩;have:=congrArg afs hr;simp at this;lia
 by_cases c:way<2
 ·obtain⟨row,s',a1,a2,a3,a4⟩:=key [none,some 0] (m7 2 1 aG (af (gC (.int 2)) ao)) s1 Pz λu s hs=>by
   obtain⟨r,s',b1,b2,b3,b4⟩:=fV (m:=2) hs (by decide) (by decide);refine⟨[some u,some s],r,[some u,some s'],s',rfl,?_,rfl,b2,by lia,b4⟩;simp only[Pzz,b1]
  refine⟨row,s',?_,a2,a3,a4⟩;simp only[eZ,jO,Pzz,dG,e1,hJ c,g9 m (by lia),a1]
 ·have hat:∃z:Int,mP [U.int 3,U.int 10] (way-2)=some (.int z)/\0<z/\z<=10:=by
   by_cases e:way=2
   ·subst e;exact⟨3,rfl,by decide,by decide⟩
   ·have e:way=3:=by lia
    subst e;exact⟨10,rfl,by decide,by decide⟩
  obtain⟨z,hz,z0,z1⟩:=hat;obtain⟨row,s',a1,a2,a3,a4⟩:=key [none,some 0,some 2] (m7 2 1 aG (af (bb rK (dI (af (gC (.int 3)) (af (gC (.int 10)) ao))) (bb E4 (ae 2) (gC (.int 2)))) ao)) s1 Pz λu s hs=>by
   obtain⟨r,s',b1,b2,b3,b4⟩:=fV hs z0 (by lia);refine⟨[some u,some s,some _],r,[some u,some s',some (.int way)],s',rfl,?_,rfl,b2,by lia,b4⟩;simp only[Pzz,Nat.reduceAdd,hz,b1]
  refine⟨row,s',?_,a2,a3,a4⟩;simp only[eZ,jO,Pzz,dG,e1,hV c,g9 m (by lia),a1]
noncomputable def DU (d:Dc):U:=.dct (d.map λp=>ak p.1) (d.map λp=>.int p.2)
noncomputable def j5 (d:Dc):List U:=d.map λp=>ak p.1
noncomputable def pS (d:Dc):List U:=d.map λp=>U.int p.2
theorem Ed:∀{a b:List Int},a.map U.int=b.map U.int->a=b
 | [],[],_=>rfl
 | [],_::_,h=>by cases h
 |_::_,[],h=>by cases h
 |x::a,y::b,h=>by
  injection h with h1 h2
  cases h1;rw[Ed h2]
def eF {a b:List Int}:ak a=ak b↔a=b:=by
 constructor
 ·intro h;injection h with h
  exact Ed h
 ·intro h;rw[h]
theorem uE {k:List Int}:ak k∈j5 d↔k∈d.map (·.1):=by
 constructor
 ·intro h;obtain⟨p,hp,e⟩:=aas.mp h;rw[←eF.mp e];exact aaI hp
 ·intro h;obtain⟨p,hp,rfl⟩:=aas.mp h;exact aaI hp
def RT (d:Dc)(k:List Int)(v:Int):g7 (j5 d) (ak k)=j5 (jg d k v):=by
 unfold g7;have e:j5 (jg d k v)=((jg d k v).map (·.1)).map ak:=by rw[aaq];rfl
 rw[e,kE];by_cases c:k∈d.map (·.1)
 ·rw[h9 (uE.mpr c),h9 c];rw[aaq];rfl
 ·rw[hZ (λz=>c (uE.mp z)),hZ c,aaG];rw[aaq];rfl
theorem JP (k:List Int)(v:Int):∀d:Dc,ab7 (λa u=>if a=ak k then U.int v else u) (j5 d) (pS d)=pS (d.map λp=>if p.1=k then (p.1,v) else p)
 | []=>rfl
 |p::d=>by
  have ih:=JP k v d;unfold j5 pS at ih ⊢;rw[aag,aag,aag,acQ];congr 1;by_cases c:p.1=k
  ·rw[h9 (eF.mpr c),h9 c]
  ·rw[hZ (λz=>c (eF.mp z)),hZ c]
def RU (d:Dc)(k:List Int)(v:Int):f9 (j5 d) (pS d) (ak k) (.int v)=pS (jg d k v):=by
 unfold f9 jg;by_cases c:k∈d.map (·.1)
 ·rw[h9 (uE.mpr c),h9 c,JP]
 ·rw[hZ (λz=>c (uE.mp z)),hZ c];unfold pS;rw[aaG];rfl
theorem uF (k:List Int):∀d:Dc,fq (j5 d) (pS d) (ak k)=if k∈d.map (·.1) then some (.int (bu d k)) else none
 | []=>rfl
 |p::d=>by
  have ih:=uF k d;unfold j5 pS at ih ⊢;rw[aag,aag];unfold fq;rw[ih,fN];by_cases c:p.1=k
  ·rw[h9 (eF.mpr c),h9 (by rw[aag,c];exact aal),h9 c]
  ·rw[hZ (λz=>c (eF.mp z)),hZ c];by_cases c2:k∈d.map (·.1)
   ·rw[h9 c2,h9 (by exact aan _ c2)]
   ·rw[hZ c2,hZ (by rw[aag,aaw,not_or];exact⟨λz=>c z.symm,c2⟩)]
theorem AG:∀l:List Int,zA (l.map U.int)=true
 | []=>rfl
 |x::l=>by rw[aag];unfold zA;rw[AG l];rfl
theorem AH:∀l:List Int,zg (l.map U.int)=0
 | []=>rfl
 |x::l=>by rw[aag];unfold zg;rw[AH l];rfl
def ow (k:List Int):Bz (ak k)=true:=by
 show (zA _&&decide _)=true;rw[AG,AH];rfl
theorem U5 (d:Dc):(j5 d).all Hy=true:=aaJ.mpr λu hu=>by
 obtain⟨p,_,rfl⟩:=aas.mp hu;rfl
theorem U6 (d:Dc):(j5 d).all UQ=true:=aaJ.mpr λu hu=>by
 obtain⟨p,_,rfl⟩:=aas.mp hu;rfl
def oy (d:Dc)(k:List Int):iS (j5 d) (ak k)=true:=by
 unfold iS;rw[ow,U5];exact Bool.or_true _
theorem jT (h:d≠[]):mQ (j5 d)=true:=by
 unfold mQ;rw[U6];cases d with
 |nil=>exact absurd rfl h
 |cons=>rfl
noncomputable def S5 (i:Nat)(v k:U)(ρ:Ev)(o:Option (Option U)):SR:=match o with
 |some (some (.dct ks us))=>if iS ks k=true/\us.length<aah then .nx (ρ.set i (some (.dct (g7 ks k) (f9 ks us k v)))) else .stk
 |_=>.stk
def mH {gv gk:Ev->R (U×Ev)}:g8 i gv gk ρ=SR.of (gv ρ) λx=>if De x.2[i]? = true then SR.of (gk x.2) λy=>S5 i x.1 y.1 y.2 y.2[i]? else .stk:=nr rfl
theorem oz (h:d.length<1000000){v:Int}{k:List Int}:S5 i (.int v) (ak k) ρ (some (some (DU d)))=.nx (ρ.set i (some (DU (jg d k v)))):=by
 have sz:aah=16777216:=rfl;have:S5 i (.int v) (ak k) ρ (some (some (DU d)))=.nx (ρ.set i (some (.dct (g7 (j5 d) (ak k)) (f9 (j5 d) (pS d) (ak k) (.int v))))):=h9 ⟨oy d k,by show (pS d).length<_;unfold pS;rw[aab,sz];lia⟩;rw[this,RT d k v,RU];rfl
noncomputable def XD (k x:U)(ρ:Ev)(o:Option (Option U)):R (U×Ev):=match o with
 |some (some (.dct ks us))=>if iS ks k=true then .ok ((fq ks us k).getD x,ρ) else .stk
 |_=>.stk
noncomputable def YS (i:Nat)(g2 g3:Ev->R (U×Ev))(ρ:Ev)(o:Option (Option U)):R (U×Ev):=match o with
 |some (some (.dct _ _))=>(g2 ρ).bind λk=>(g3 k.2).bind λx=>XD k.1 x.1 x.2 x.2[i]?
 |_=>.stk
def yx {g2 g3:Ev->R (U×Ev)}:kn i g2 g3 ρ=YS i g2 g3 ρ ρ[i]? := nr rfl
def yy {g2 g3:Ev->R (U×Ev)}:YS i g2 g3 ρ (some (some (DU d)))=(g2 ρ).bind λk=>(g3 k.2).bind λx=>XD k.1 x.1 x.2 x.2[i]? := nr rfl
theorem yz {k:List Int}:XD (ak k) (.int 0) ρ (some (some (DU d)))=.ok (.int (bu d k),ρ):=by
 refine (h9 (oy d k)).trans ?_;rw[show fq (d.map _) (d.map _) (ak k)=_ from uF k d];split
 ·rfl
 ·rename_i c;rw[eD c];rfl
theorem iy (ws:List (List Int×Int)):(aR [] ws).length<=ws.length:=by
 have:∀(ws:List _) (d:Dc),(aR d ws).length<=d.length+ws.length:=by
  intro ws
  induction ws with
  |nil=>intro d;exact aao _
  |cons p ws ih=>
   intro d;have h1:=ih (og d p.1 p.2);have h2:(og d p.1 p.2).length<=d.length+1:=by
    unfold og jg;split
    ·rw[aab];lia
    ·rw[aaj];exact aao _
   rw[aat];show (aR (og d p.1 p.2) ws).length<=_;lia
 have:=this ws [];simpa using this
def kH (d:Dc)(ws:List (List Int×Int))(p:List Int×Int):aR d (ws++[p])=og (aR d ws) p.1 p.2:=by
 unfold aR;rw[adX];rfl
noncomputable def SU (ss:List (List Int)):U:=.tup (ss.map ak)
theorem JQ {s:Nat}{x:U}(ss:List (List Int))(hl:ss.length<100000)(mk:Dc->Option U->Ev)(step:∀(d:Dc) (o:Option U) (k:List Int),d.length<1000000->∃ρ1,bB j (ak k) (mk d o)=.ok ρ1/\g8 i (bb cB (kn i (ae j) (gC (.int 0))) (gC (.int 1))) (ae j) ρ1=.nx (mk (jg d k (bu d k+1)) (some (ak k))))(o:Option U) :
  ∃o',d6 (bB j) (g8 i (bb cB (kn i (ae j) (gC (.int 0))) (gC (.int 1))) (ae j)) (ss.map ak) (mk [] o)=.nx (mk (aF ss) o'):=by
 obtain⟨ρ',e1,o',e2⟩:=bF
  (λn ρ=>∃o,ρ=mk (aR [] ((ss.take n).map λx=>(x,1))) o)
  (λn u ρ hu h00=>by
   obtain⟨o,hr⟩:=h00;subst hr;have hn:n<ss.length:=by have:=(aap.mp hu).1;rwa [aab] at this
   rw[aar,aac hn] at hu;obtain rfl:ak ss[n]=u:=by injection hu
   obtain⟨ρ1,a,b⟩:=step (aR [] ((ss.take n).map λx=>(x,1))) o ss[n] (aeA (iy _) (by rw[aab,aaE];lia));refine⟨ρ1,_,a,.inl b,some (ak ss[n]),?_⟩;rw[aaL hn,aaG];show _=mk (aR [] (_++[(ss[n],1)])) _;rw[kH];rfl)
  (ρ:=mk [] o) ⟨o,rfl⟩
 refine⟨o',?_⟩;rw[e1,e2,aab,abh];rfl
theorem fP {x:U}{ss:List (List Int)}(hx:vq x=λρ=>.ok (ss.map ak,ρ))(hl:ss.length<100000):cC [x]=.ok (DU (aF ss)):=by
 obtain⟨o',e⟩:=JQ (s:=0) (x:=x) (i:=1) (j:=2) ss hl (λd o=>[some x,some (DU d),o]) (λd o k hd=>⟨[some x,some (DU d),some (ak k)],rfl,by
  simp only[Pzz,mH,yx,yy,yz,oz hd]⟩) none
 have e0:DU []=.dct [] []:=rfl;rw[e0] at e;unfold cC pG;simp only[Pzz,dG,hx,e]
theorem JR {a b:Int}(h0:0<=a)(h1:0<b):(ab_ b.toNat (a % b).toNat)=ab_ a.toNat b.toNat:=by
 obtain⟨n,rfl⟩:∃n:Nat,a=n:=⟨a.toNat,by lia⟩;obtain⟨m,rfl⟩:∃m:Nat,b=m:=⟨b.toNat,by lia⟩;have e:((n:Int) % (m:Int)).toNat=n % m:=by rfl
 rw[e,aaY,aaY,Nat.gcd_comm m (n % m),←Nat.gcd_rec,Nat.gcd_comm]
theorem Pa {i:Int}(h:0<=i):E5 [.int i]=.ok (.int i):=by
 have e:E5 [.int i]=.ok _:=nr rfl;rw[e,hZ (by lia)]
theorem Ee:∀(n:Nat) (a b:Int) (o:Option U),0<=a->0<=b->b<n->∃o',fi (gB (bb (mj not) (ae 1) (gC (.int 0)))) (aH (aY 2 (bb vo (ae 0) (ae 1))) (aH (aY 0 (ae 1)) (aY 1 (ae 2)))) n [some (.int a),some (.int b),o]=.nx [some (.int (ab_ a.toNat b.toNat)),some (.int 0),o']
 |0,a,b,o,h0,h1,h2=>by lia
 |n+1,a,b,o,h0,h1,h2=>by
  by_cases c:b=0
  ·subst c;refine⟨o,?_⟩;have:((ab_ a.toNat (0:Int).toNat:Nat):Int)=a:=by rw[show (0:Int).toNat=0 from rfl,Nat.gcd_zero_right];lia
   rw[this];simp only[Pzz,Int.reduceBEq,xJ]
  ·have hb:0<b:=by lia
   obtain⟨o',e⟩:=Ee n b (a % b) (some (.int (a % b))) h1 (adL _ c) (by have:=adC a hb;lia);refine⟨o',?_⟩;rw[JR h0 hb] at e;have cb:=beq_eq_false_iff_ne.mpr c;simp only[Pzz,cb,xJ,hJ hb,e]
theorem JS {a b:Int}(h0:0<=a)(h1:0<=b)(h2:b<1000000000000):bD [.int a,.int b]=.ok (.int (ab_ a.toNat b.toNat)):=by
 obtain⟨o',e⟩:=Ee _ a b none h0 h1 h2;unfold bD eU;simp only[Pzz,dG,Pa h0,Pa h1,e]
noncomputable def YT (u:U)(ρ:Ev):R (List U×Ev):=match u with
 | .dct ks us=>if mQ ks=true then .ok (us,ρ) else .stk
 |_=>.stk
noncomputable def XF (u:U)(ρ:Ev):R (List U×Ev):=match u with
 | .dct ks _=>if mQ ks=true then .ok (ks,ρ) else .stk
 |_=>.stk
noncomputable def YU (u:U)(ρ:Ev):R (List U×Ev):=match u with
 | .dct ks us=>if mQ ks=true then .ok (ab7 (λk u=>.tup [k,u]) ks us,ρ) else .stk
 |_=>.stk
def XG {g:Ev->R (U×Ev)}:Xp g ρ=(g ρ).bind λx=>YT x.1 x.2:=nr rfl
def M5 {g:Ev->R (U×Ev)}:UR g ρ=(g ρ).bind λx=>XF x.1 x.2:=nr rfl
def JT {g:Ev->R (U×Ev)}:OY g ρ=(g ρ).bind λx=>YU x.1 x.2:=nr rfl
def M6 (h:d≠[]):YT (DU d) ρ=.ok (d.map λp=>.int p.2,ρ):=h9 (jT h)
def M7 (h:d≠[]):XF (DU d) ρ=.ok (d.map λp=>ak p.1,ρ):=h9 (jT h)
noncomputable def RV (p:List Int×Int):U:=.tup [ak p.1,.int p.2]
theorem oA (h:d≠[]):YU (DU d) ρ=.ok (d.map RV,ρ):=by
 refine (h9 (jT h)).trans ?_;have e:∀d:Dc,ab7 (λk u=>U.tup [k,u]) (d.map λp=>ak p.1) (d.map λp=>U.int p.2)=d.map RV:=by
  intro d
  induction d with
  |nil=>rfl
  |cons p d ih=>rw[aag,aag,acQ,ih];rfl
 rw[e]
noncomputable def YV (i:Nat):SR->SR
 | .nx ρ'=>.nx (ρ'.set i none)
 | .bk ρ'=>.bk (ρ'.set i none)
 | .ct ρ'=>.ct (ρ'.set i none)
 | .rt u ρ'=>.rt u (ρ'.set i none)
 |r=>r
theorem JU {g:Ev->SR}:BO i g ρ=YV i (g ρ):=nr (by unfold BO YV;cases g ρ<;>rfl)
theorem Pb {k:List Int}(h:k∈d.map (·.1)):zC (DU d) (ak k)=.ok (.int (bu d k)):=by
 have e:zC (DU d) (ak k)=if iS (j5 d) (ak k)=true then (match fq (j5 d) (pS d) (ak k) with
  |some z=>.ok z
  |none=>.stk) else .stk:=rfl
 rw[e,h9 (oy d k),uF,h9 h]
def La {a b:U}:du 2 (aM (bB i) (aM (bB j) dD)) (.tup [a,b]) ρ=.ok ((ρ.set i (some a)).set j (some b)):=nr rfl
noncomputable def av (a b:List Int):List Int:=b.map λi=>a.getD i.toNat 0
theorem Ef {a b:List Int}(h:∀i∈b,0<=i/\i<a.length):yO (xw [none,some 0] (bB 0) cR (bb rK (ae 1) (ae 0)) [some (ak a),some (ak b)]) (b.map U.int)=.ok ((av a b).map U.int):=by
 have e:=de (f:=xw [none,some 0] (bB 0) cR (bb rK (ae 1) (ae 0)) [some (ak a),some (ak b)]) (c:=U.int) (g:=λi:Int=>U.int (a.getD i.toNat 0)) λi hi=>by
  obtain⟨h0,h1⟩:=h i hi;obtain⟨n,rfl⟩:∃n:Nat,i=n:=⟨i.toNat,by lia⟩;have hn:n<a.length:=by lia
  have e1:mP (a.map U.int) (n:Int)=some (.int a[n]):=by rw[we,aar,aac hn];rfl
  have e2:a.getD (n:Int).toNat 0=a[n]:=by rw[aaY,aav,aac hn];rfl
  simp only[Pzz,ak,e1,e2]
 rw[e];unfold av;rw[aaq];rfl
theorem JV {a b:List Int}(h:∀i∈b,0<=i/\i<a.length)(hl:b.length<=1000):eV [ak a,ak b]=.ok (ak (av a b)):=by
 have e:=Ef h;have sz:((av a b).map U.int).length<=aah:=by rw[aab];unfold av;rw[aab];have:aah=16777216:=rfl;lia
 unfold eV jK;simp only[ak] at e ⊢;simp only[Pzz,dG,Nat.reduceAdd,Nat.reduceSub,e]
theorem gU:∀ns:List Int,dz (ns.map U.int)=some ns
 | []=>rfl
 |n::ns=>by show (dz _).map _=_;rw[gU ns];rfl
theorem AI:∀{rC:List (List Int)},(∀ns∈rC,ns≠[])->ug (rC.map ak)=some rC
 | [],_=>rfl
 |ns::rC,h=>by
  rw[aag];unfold ug;have e1:MC (ak ns)=some ns:=by
   show (match dz _ with|some (n::ns)=>some (n::ns)|_=>none)=_;rw[gU];cases ns with
   |nil=>exact absurd rfl (h [] aal)
   |cons=>rfl
  rw[e1,AI λx hx=>h x (aan _ hx)]
theorem pT (h:d≠[])(ln:d.length<100000)(hr:∀p∈d,p.1≠[]):j3 [DU d]=.ok (.lst ((bG (d.map (·.1))).map ak)):=by
 have e:j3 [DU d]=if mQ (j5 d)=true then jI (j5 d) else .stk:=rfl
 rw[e,h9 (jT h)];unfold jI;have e2:ug (j5 d)=some (d.map (·.1)):=by
  have:j5 d=(d.map (·.1)).map ak:=by rw[aaq];rfl
  rw[this];exact AI λns hn=>by obtain⟨p,hp,rfl⟩:=aas.mp hn;exact hr p hp
 rw[e2];dsimp only;rw[h9 (by rw[aab];lia)]
def lh (ss:List (List Int)):vq (SU ss)=λρ=>.ok (ss.map ak,ρ):=by funext ρ;exact BI
structure Sm (d:Dc):Prop where
 ne:d≠[]
 nd:Nd d
 ps:Ps d
 le:∀p∈d,p.2<1000
 ln:d.length<1000
noncomputable def Cp (d:Dc)(n:Nat):Nat:=((d.take n).map λp=>p.2.toNat).foldl ab_ 0
def FX (h:n<d.length):Cp d (n+1)=ab_ (Cp d n) d[n].2.toNat:=by
 unfold Cp;rw[aaL h,aaG,adX];rfl
def JW (d:Dc):Cp d d.length=fe d:=by unfold Cp fe;rw[abh]
theorem lK:∀(l:List Nat) (g:Nat),0<g->0<l.foldl ab_ g
 | [],g,h=>h
 |x::l,g,h=>lK l _ (aeM _ h)
theorem oB (h:Sm d):0<fe d:=by
 have h1:=h.ne;have h2:=h.ps;cases d with
 |nil=>exact absurd rfl h1
 |cons p d=>
  unfold fe;rw[aag,abv,Nat.gcd_zero_left];have:=h2 p aal;exact lK _ _ (by lia)
theorem oC:∀(l:List Nat) (g:Nat),0<g->l.foldl ab_ g<=g
 | [],g,h=>aao _
 |x::l,g,h=>aaR (oC l _ (aeM _ h)) (Nat.gcd_le_left _ h)
theorem M8 (h:Sm d):fe d<1000:=by
 have h1:=h.ne;have h2:=h.ps;have h3:=h.le;cases d with
 |nil=>exact absurd rfl h1
 |cons p d=>
  unfold fe;rw[aag,abv,Nat.gcd_zero_left];have a:=h2 p aal;have b:=h3 p aal;have:=oC (d.map λp=>p.2.toNat) p.2.toNat (by lia);lia
theorem JX (n:Nd d)(h:i<d.length):jg (d.take i) d[i].1 d[i].2=d.take (i+1):=by
 have c:d[i].1∉(d.take i).map (·.1):=by
  intro z;obtain⟨q,hq,e⟩:=aas.mp z;obtain⟨j,hj,rfl⟩:=abM.mp hq;rw[aaE] at hj;rw[adT] at e;have Zn:j<d.length:=by lia
  have a1:(d.map (·.1))[j]? = some d[j].1:=by rw[aar,aac Zn];rfl
  have a2:(d.map (·.1))[i]? = some d[j].1:=by rw[aar,aac h,e];rfl
  have:=(List.getElem?_inj (by rw[aab];exact Zn) n).mp (a1.trans a2.symm);lia
 unfold jg;rw[hZ c,aaL h]
theorem M9 {v:Int}(h:0<g)(h2:g<1000):f7 (.int v) (.int g)=.ok (.int (v / g)):=by
 rw[tm,h9];unfold vn;rw[aau,decide_eq_true_eq,decide_eq_true_eq];lia
def jk (d:Dc):(aW d).length=d.length:=by unfold aW;rw[aab]
def FY (h:i<d.length):(aW d)[i]'(by rw[jk];exact h)=(d[i].1,d[i].2 / (fe d:Int)):=by unfold aW;rw[afg]
theorem kI (h:Sm d):eX [DU d]=.ok (DU (aW d)):=by
 have ln:=h.ln;obtain⟨ρ1,e1,o1,r1⟩:=bF (us:=d.map λp=>U.int p.2) (sg:=bB 2) (s:=aY 1 (eR 2 bD (af (ae 1) (af (ae 2) ao))))
  (λn ρ=>∃o,ρ=[some (DU d),some (.int (Cp d n)),o,none,none])
  (λn u ρ hu h00=>by
   obtain⟨o,hr⟩:=h00;subst hr;have hn:=by have:=(aap.mp hu).1;rwa [aab] at this
   rw[aar,aac hn] at hu;obtain rfl:U.int d[n].2=u:=by injection hu
   have a1:=h.ps d[n] (aaH hn);have a2:=h.le d[n] (aaH hn);refine⟨_,_,rfl,.inl ?_,some (.int d[n].2),rfl⟩;have e:=JS (a:=(Cp d n:Int)) (b:=d[n].2) (by lia) (by lia) (by lia);rw[aaY,←FX hn] at e;simp only[Pzz,e])
  (ρ:=[some (DU d),some (.int 0),none,none,none]) ⟨none,rfl⟩
 subst r1;rw[aab,JW] at e1;obtain⟨ρ2,e2,o2,o3,r2⟩:=bF (sg:=du 2 (aM (bB 4) (aM (bB 2) dD))) (s:=g8 3 (bb f7 (ae 2) (ae 1)) (ae 4))
  (λn ρ=>∃o o',ρ=[some (DU d),some _,o,some (DU ((aW d).take n)),o'])
  (λn u ρ hu h00=>by
   obtain⟨o,o',hr⟩:=h00;subst hr;have hn:n<d.length:=by have:=(aap.mp hu).1;rwa [aab] at this
   rw[aar,aac hn] at hu;obtain rfl:RV d[n]=u:=by injection hu
   have S9:n<(aW d).length:=by rw[jk];exact hn
   have pt:=JX (jQ h.nd) S9;rw[FY hn] at pt;refine⟨_,_,La,.inl ?_,some (.int d[n].2),some (ak d[n].1),rfl⟩;rw[←pt];simp only[Pzz,mH,M9 (oB h) (M8 h),oz (show ((aW d).take n).length<1000000 by rw[aaE];lia)])
  (ρ:=[some (DU d),some (.int (fe d)),o1,some (DU []),none]) ⟨o1,none,rfl⟩
 subst r2;rw[aab,←jk,abh] at e2;have e0:DU []=.dct [] []:=rfl;rw[e0] at e2;unfold eX mw;simp only[Pzz,dG,XG,JT,M6 h.ne,oA h.ne,e1,e2]
def M_ {k:List Int}(v:Int)(h:k∉d.map (·.1)):jg d k v=d++[(k,v)]:=hZ h
theorem yA {a b:List Int}(h:∀i∈b,0<=i/\i<a.length)(hl:b.length<=1000):jL [ak a,ak b]=.ok (ak (av a b)):=by
 have e:=Ef h;have sz:((av a b).map U.int).length<=aah:=by rw[aab];unfold av;rw[aab];have:aah=16777216:=rfl;lia
 have e1:eV [ak a,ak b]=.ok (ak (av a b)):=by
  unfold eV jK;simp only[ak] at e ⊢;simp only[Pzz,dG,Nat.reduceAdd,Nat.reduceSub,e]
 unfold jL Ca;simp only[Pzz,dG,e1]
theorem RW {n:Int}(h0:0<=n)(h1:n<=100000):Aa (.lst [u]) (.int n)=.ok (.lst (aa9 n.toNat u)):=by
 have e:Aa (.lst [u]) (.int n)=if 0<=n/\n<=100000/\[u].length*n.toNat<=100000/\[u].isEmpty=false then .ok _ else .stk:=nr rfl
 rw[e,h9 ⟨h0,h1,by simp;lia,rfl⟩];congr 2;generalize n.toNat=m
 induction m with
 |zero=>rfl
 |succ m ih=>rw[aei,abe,ih];rfl
theorem RX {s:Ev->SR}(d:Dc)(mk:List (List Int)->Option U->Ev)(hz:∀l:List (List Int),(∀k∈l,k∈d.map (·.1))->l.length<=d.length->(l.flatMap λk=>aa9 (bu d k).toNat k).length<=2000000)(step:∀(xs:List (List Int)) (o:Option U) (k:List Int),k∈d.map (·.1)->xs.length<=2000000->∃ρ1,bB j (ak k) (mk xs o)=.ok ρ1/\s ρ1=.nx (mk (xs++aa9 (bu d k).toNat k) (some (ak k))))(o:Option U) :
  ∃o',d6 (bB j) s ((bG (d.map (·.1))).map ak) (mk [] o)=.nx (mk (pR d) o'):=by
 have sp:=ba (d.map (·.1));obtain⟨ρ',e1,o',e2⟩:=bF
  (λn ρ=>∃o,ρ=mk (((bG (d.map (·.1))).take n).flatMap λk=>aa9 (bu d k).toNat k) o)
  (λn u ρ hu h00=>by
   obtain⟨o,hr⟩:=h00;subst hr;have hn:n<(bG (d.map (·.1))).length:=by have:=(aap.mp hu).1;rwa [aab] at this
   rw[aar,aac hn] at hu;obtain rfl:ak _=u:=by injection hu
   obtain⟨ρ1,a,b⟩:=step (((bG _).take n).flatMap _) o _ (sp.mem_iff.mp (aaH hn))
    (hz _ (λk hk=>sp.mem_iff.mp (abf hk)) (by rw[aaE,sp.length_eq,aab];lia))
   refine⟨ρ1,_,a,.inl b,some (ak (bG _)[n]),?_⟩;rw[aaL hn,afB];simp)
  (ρ:=mk [] o) ⟨o,rfl⟩
 refine⟨o',?_⟩;rw[e1,e2,aab,abh];rfl
structure Sh (n:Nat)(l:List (List Int)):Prop where
 ne:l≠[]
 ln:l.length<=60
 n1:1<=n
 n8:n<=8
 len:∀a∈l,a.length=n
 bd:∀a∈l,∀i∈a,0<=i/\i<n
theorem uG:∀(ws:List (List Int×Int)) (d:Dc) (p:List Int×Int),p∈aR d ws->p.1∈d.map (·.1)\/p.1∈ws.map (·.1)
 | [],d,p,h=>.inl (aaI h)
 |q::ws,d,p,h=>by
  rcases uG ws _ p h with h|h
  ·unfold og at h;rw[kE] at h;split at h
   ·exact .inl h
   ·rcases aaQ.mp h with h|h
    ·exact .inl h
    ·rw[aaK] at h;exact .inr (by rw[h];exact aal)
  ·exact .inr (by exact aan _ h)
theorem ll {l:List (List Int)}{p:List Int×Int}(h:p∈aF l):p.1∈l:=by
 rcases uG _ _ p h with h|h
 ·cases h
 ·rw[aaq] at h;obtain⟨x,hx,e⟩:=aas.mp h;rw[←e];exact hx
theorem Pc (n:Nd d)(p:Ps d)(t:mG d<1000)(ne:d≠[]):Sm d:=⟨ne,n,p,λq hq=>by have:=JL p q hq;lia,by have:=jS p;lia⟩
def JY (h:0<mG d):d≠[]:=λz=>by rw[z] at h;exact absurd h (by decide)
theorem i0 {l:List (List Int)}(h:l≠[])(hl:l.length<1000):Sm (aF l):=by
 obtain⟨n,p,_⟩:=bM l;have t:=om l;have:0<l.length:=by cases l with
  |nil=>exact absurd rfl h
  |cons=>simp
 exact Pc n p (by lia) (JY (by lia))
theorem Eg {l m:List (List Int)}(hl:l≠[])(hm:m≠[])(h:l.length*m.length<1000):Sm (aR [] (gE av (aF l) (aF m))):=by
 have p:=wM av l m;obtain⟨n1,p1,_⟩:=bM l;obtain⟨n2,p2,_⟩:=bM m;obtain⟨n4,p4,_⟩:=gT _ iZ.1 iZ.2 (wL p1 p2);have t:=wJ p;rw[om] at t;have e:(gf av l m).length=l.length*m.length:=by
  have:∀l:List _,(l.flatMap λa=>m.map λb=>av a b).length=l.length*m.length:=by
   intro l
   induction l with
   |nil=>simp
   |cons a l ih=>rw[abL,aaj,aab,ih,aat,Nat.succ_mul];lia
  exact this l
 have pos:=Nat.mul_pos (abi.mpr hl) (abi.mpr hm);exact Pc n4 p4 (by lia) (JY (by lia))
theorem RY {a b:Int}(h0:0<=a)(h1:a<1000):d7 (.int a) (.int b)=.ok (.int (a*b)):=by
 rw[IE,h9];unfold jy;rw[acO,aau,decide_eq_true_eq,decide_eq_true_eq];exact .inl ⟨by lia,by lia⟩
theorem JZ (c e:Dc):(gE av c e).length=c.length*e.length:=by
 unfold gE
 induction c with
 |nil=>simp
 |cons a c ih=>rw[abL,aaj,aab,ih,aat,Nat.succ_mul];lia
def oD (l:List (List Int)):(aF l).length<=l.length:=by
 have:=iy (l.map λx=>(x,(1:Int)));rw[aab] at this;exact this
theorem RZ {l m:List (List Int)}(hl:Sh n l)(hm:Sh n m):∃o3 o4 o5 o6 o7,fm (OY (eR 1 cC (af (ae 0) ao))) (du 2 (aM (bB 3) (aM (bB 4) dD))) rT [some (SU l),some (SU m),some (DU []),none,none,none,none,none,none,none]=.nx [some (SU l),some (SU m),some (DU (aR [] (gE av (aF l) (aF m)))),o3,o4,o5,o6,o7,none,none]:=by
 have s1:=i0 hl.ne (by have:=hl.ln;lia);have s2:=i0 hm.ne (by have:=hm.ln;lia);have c1:=fP (lh l) (by have:=hl.ln;lia);have c2:=fP (lh m) (by have:=hm.ln;lia);have l1:=aaR (oD l) hl.ln;have l2:=aaR (oD m) hm.ln;obtain⟨ρ',e1,o3,o4,o5,o6,o7,r1⟩:=bF (sg:=du 2 (aM (bB 3) (aM (bB 4) dD)))
  (s:=rT)
  (λi ρ=>∃o3 o4 o5 o6 o7,ρ=[some (SU l),some (SU m),some (DU (aR [] (gE av ((aF l).take i) (aF m)))),o3,o4,o5,o6,o7,none,none])
  (λi u ρ hu h00=>by
   obtain⟨o3,o4,o5,o6,o7,hr⟩:=h00;subst hr;have hi:i<(aF l).length:=by have:=(aap.mp hu).1;rwa [aab] at this
   rw[aar,aac hi] at hu;obtain rfl:RV _=u:=by injection hu
   have ma:=ll (aaH hi);have va:=s1.ps _ (aaH hi);have vb:=s1.le _ (aaH hi);generalize ea:(aF l)[i]=a at ma va vb;obtain⟨ρ2,e2,p5,p6,p7,r2⟩:=bF (sg:=du 2 (aM (bB 5) (aM (bB 6) dD)))
    (s:=yj)
    (λj ρ=>∃o5 o6 o7,ρ=[some (SU l),some (SU m),some (DU (aR [] (gE av ((aF l).take i) (aF m)++((aF m).take j).map λb=>(av a.1 b.1,a.2*b.2)))),some (ak a.1),some (.int a.2),o5,o6,o7,none,none])
    (λj u ρ hu h00=>by
     obtain⟨o5,o6,o7,hr⟩:=h00;subst hr;have hj:j<(aF m).length:=by have:=(aap.mp hu).1;rwa [aab] at this
     rw[aar,aac hj] at hu;obtain rfl:RV _=u:=by injection hu
     have mb:=ll (aaH hj);generalize eb:(aF m)[j]=b at mb;have t:=yA (λx hx=>by rw[hl.len _ ma];exact hm.bd _ mb x hx) (by rw[hm.len _ mb];have:=hm.n8;lia);have lw:(aR [] (gE av ((aF l).take i) (aF m)++((aF m).take j).map λb=>(av a.1 b.1,a.2*b.2))).length<1000000:=by
      refine aeA (iy _) ?_;rw[aaj,JZ,aab,aaE,aaE];have:min i (aF l).length*(aF m).length<=60*60:=ae2 (by lia) l2;lia
     refine⟨_,_,La,.inl ?_,some (ak b.1),some (.int b.2),some (ak (av a.1 b.1)),rfl⟩;rw[aaL hj,aaG,←aaP];show _=SR.nx [some (SU l),some (SU m),some (DU (aR [] ((_++_)++[(av a.1 _,a.2*(aF m)[j].2)]))),_,_,_,_,_,_,_];rw[kH,eb];show _=SR.nx [some (SU l),some (SU m),some (DU (jg _ _ _)),_,_,_,_,_,_,_];simp only[yj,Pzz,t,mH,yx,yy,yz,RY (by lia:(0:Int)<=a.2) vb,oz lw])
    ⟨o5,o6,o7,by rw[List.take_zero,acA,aa2]⟩
   subst r2;rw[aab,abh] at e2;have e3:gE av ((aF l).take i) (aF m)++((aF m).map λb=>(av a.1 b.1,a.2*b.2))=gE av ((aF l).take (i+1)) (aF m):=by
    rw[aaL hi,ea];unfold gE;simp
   rw[e3] at e2;refine⟨_,_,La,.inl ?_,some (ak a.1),some (.int a.2),p5,p6,p7,rfl⟩;simp only[rT,Pzz,c2,JT,oA s2.ne,e2])
  (ρ:=[some (SU l),some (SU m),some (DU []),none,none,none,none,none,none,none]) ⟨none,none,none,none,none,rfl⟩
 subst r1;rw[aab,abh] at e1;refine⟨o3,o4,o5,o6,o7,?_⟩;simp only[Pzz,c1,JT,oA s1.ne,e1]
noncomputable def XH (u:U)(ρ:Ev):R (U×Ev):=match u with
 | .dct ks us=>if mQ ks=true then (match dz us with
  |some ns=>if mf ns=true then .ok (.int ns.sum,ρ) else .stk
  |none=>.stk) else .stk
 |_=>.stk
def J0 {g:Ev->R (U×Ev)}:DY g ρ=(g ρ).bind λx=>XH x.1 x.2:=nr rfl
theorem Na (h:d≠[])(l:d.length<1000)(hv:∀p∈d,0<=p.2/\p.2<1000):XH (DU d) ρ=.ok (.int (mG d),ρ):=by
 have e:XH (DU d) ρ=if mQ (j5 d)=true then (match dz (pS d) with
  |some ns=>if mf ns=true then .ok _ else .stk
  |none=>.stk) else .stk:=rfl
 have e2:dz (pS d)=some (d.map (·.2)):=by
  have:pS d=(d.map (·.2)).map U.int:=by rw[aaq];rfl
  rw[this,gU]
 rw[e,h9 (jT h),e2];dsimp only;rw[h9]
 ·rfl
 ·unfold mf;rw[aau,decide_eq_true_eq,aab,aaJ];refine⟨by lia,λx hx=>?_⟩;obtain⟨p,hp,rfl⟩:=aas.mp hx;have:=hv p hp;exact hJ (by lia)
def rW (h:Sm d):aW d≠[]:=λz=>h.ne (adm.mp z)
theorem wN (h:Sm d):∀p∈aW d,0<=p.2/\p.2<1000:=by
 intro p hp;obtain⟨q,hq,rfl⟩:=aas.mp hp;have h1:=h.ps q hq;have h2:=h.le q hq;constructor
 ·exact Int.ediv_nonneg (by lia) (by lia)
 ·have:q.2 / (fe d:Int)<=q.2:=Int.ediv_le_self _ (by lia);lia
theorem uH (h:Sm d)(k:List Int):0<=bu (aW d) k/\bu (aW d) k<1000:=by
 by_cases c:k∈(aW d).map (·.1)
 ·exact wN h _ (fO c)
 ·rw[eD c];lia
theorem Eh (h:Sm d)(l:List (List Int))(hl:l.length<=(aW d).length):(l.flatMap λk=>aa9 (bu (aW d) k).toNat k).length<=2000000:=by
 have:∀l:List _,(l.flatMap λk=>aa9 (bu (aW d) k).toNat k).length<=l.length*1000:=by
  intro l
  induction l with
  |nil=>simp
  |cons k l ih=>
   have:=uH h k;rw[abL,aaj,acw,aat];lia
 have h1:=this l;have h2:=h.ln;rw[jk] at hl;lia
theorem FZ {Q:List Int->Prop}(h:∀p∈d,Q p.1):∀p∈aW d,Q p.1:=by
 intro p hp;obtain⟨q,hq,rfl⟩:=aas.mp hp;exact h q hq
theorem J2 (h:Sm d){xs:List (List Int)}{k:List Int}(hx:xs.length<=2000000):fR (.lst (xs.map ak)) [.lst (aa9 (bu (aW d) k).toNat (ak k))]=.ok (.non,.lst ((xs++aa9 (bu (aW d) k).toNat k).map ak)):=by
 have:=uH h k;have sz:aah=16777216:=rfl;rw[O9,h9 (by rw[aab,acw];lia),aaG,List.map_replicate]
theorem F0 {l m:List (List Int)}(hm:Sh n m):∀p∈aR [] (gE av (aF l) (aF m)),p.1≠[]:=by
 intro p hp;rcases uG _ _ p hp with z|z
 ·cases z
 ·obtain⟨q,hq,e⟩:=aas.mp z;obtain⟨a,_,hq⟩:=acI.mp hq;obtain⟨b,hb,rfl⟩:=aas.mp hq;rw[←e];intro y;have l1:=hm.len _ (ll hb);have:(av a.1 b.1).length=0:=by rw[show av a.1 b.1=[] from y];rfl
  unfold av at this;rw[aab] at this;have:=hm.n1;lia
noncomputable def AJ (l m:List (List Int)):Dc:=aW (aR [] (gE av (aF l) (aF m)))
theorem lL:∀(l:List Nat) (g:Nat),l.foldl ab_ g ∣ g/\∀x∈l,l.foldl ab_ g ∣ x
 | [],g=>⟨Nat.dvd_refl _,λx hx=>by cases hx⟩
 |y::l,g=>by
  obtain⟨a,b⟩:=lL l _;refine⟨Nat.dvd_trans a (Nat.gcd_dvd_left _ _),λx hx=>?_⟩;rcases aaw.mp hx with rfl|hx
  ·exact Nat.dvd_trans a (Nat.gcd_dvd_right _ _)
  ·exact b x hx
def oE (q:List Int×Int)(h:q∈d):fe d ∣ q.2.toNat:=by
 exact (lL _ _).2 _ (aaI h)
theorem yB (h:Sm d):Ps (aW d):=by
 intro p hp;obtain⟨q,hq,rfl⟩:=aas.mp hp;have h1:=h.ps q hq;have h3:=oB h;have h4:=oE q hq;obtain⟨t,ht⟩:=h4;have:q.2=(fe d:Int)*t:=by have:=congrArg (λx:Nat=>(x:Int)) ht;lia
 rw[this,adf _ (by lia)];cases t with
 |zero=>lia
 |succ t=>lia
theorem Nb {l m:List (List Int)}(hl:Sh n l)(hm:Sh n m)(h:l.length*m.length<1000):my [SU l,SU m]=if 24<mG (AJ l m) then .exc "TooMany" .non else .ok (SU (pR (AJ l m))):=by
 have s:=Eg hl.ne hm.ne h;have hk:=F0 (l:=l) hm;obtain⟨o3,o4,o5,o6,o7,e2⟩:=RZ hl hm;have ep:AJ l m=aW _:=rfl;generalize aR [] _=d at s e2 ep hk;have e3:=kI s;have e4:=λρ=>Na (rW s) (by rw[jk];exact s.ln) (wN s) (ρ:=ρ);have e0:DU []=.dct [] []:=rfl;rw[e0,Ik] at e2;rw[ep];by_cases c:24<mG (aW d)
 ·rw[h9 c];unfold my uu;simp only[Pzz,dG,e2,JU,e3,J0,e4,hJ c];rfl
 ·rw[hZ c];have hp:=yB s;have ln:(aW d).length<100000:=by
   have:=jS hp;lia
  have e5:=pT (rW s) ln (FZ (Q:=λk=>k≠[]) hk);obtain⟨o',e6⟩:=RX (s:=yk) (j:=7) (aW d)
   (λxs o=>[some (SU l),some (SU m),some (DU d),o3,o4,o5,o6,o,some (DU (aW d)),some (.lst (xs.map ak))]) (λl _ hl=>Eh s l hl)
   (λxs o k hk hx=>⟨_,rfl,by
    have sz:(1:Nat)<=aah:=by decide
    have g:=uH s k;simp only[yk,Pzz,Pb hk,RW g.1 (by lia:bu (aW d) k<=100000),J2 s hx,sz]⟩) o7
  have sz:((pR (aW d)).map ak).length<=aah:=by
   have:=Eh s (bG ((aW d).map (·.1))) (by rw[(ba _).length_eq,aab];exact aao _);have z:aah=16777216:=rfl;rw[aab];unfold pR;lia
  have z0:(0:Nat)<=aah:=by decide
  rw[acA] at e6;unfold my uu;simp only[Pzz,dG,e2,JU,e3,J0,e4,hV c,e5,e6,z0];rfl
noncomputable def lq (t b:Int):Int×Int:=(t / (ab_ t.toNat b.toNat:Nat),b / (ab_ t.toNat b.toNat:Nat))
noncomputable def yC (p:Int×Int):U:=.tup [.int p.1,.int p.2]
theorem J3 {p q:Nat}(hq:0<q)(hm:0<m)(hc:ab_ p q=1)(h:p*m=n*q):n / ab_ n m=p/\m / ab_ n m=q:=by
 have d:=by
  have:q ∣ p*m:=⟨n,by rw[h,Nat.mul_comm]⟩;exact (Nat.Coprime.dvd_of_dvd_mul_left (by rw[Nat.coprime_iff_gcd_eq_one,Nat.gcd_comm];exact hc) this)
 obtain⟨k,rfl⟩:=d;have hk:0<k:=Nat.pos_of_ne_zero λe=>by subst e;simp at hm
 have hn:=by
  have:n*q=(p*k)*q:=by rw[←h,Nat.mul_comm q k,Nat.mul_assoc]
  exact Nat.eq_of_mul_eq_mul_right hq this
 subst hn;have g:ab_ (p*k) (q*k)=k:=by rw[Nat.gcd_mul_right,hc,Nat.one_mul]
 rw[g];exact⟨Nat.mul_div_cancel _ hk,Nat.mul_div_cancel _ hk⟩
theorem AK {p q t b:Int}(hp:0<=p)(hq:0<q)(ht:0<=t)(hb:0<b)(hc:ab_ p.toNat q.toNat=1)(h:p*b=t*q):lq t b=(p,q):=by
 obtain⟨p,rfl⟩:∃n:Nat,p=n:=⟨p.toNat,by lia⟩;obtain⟨q,rfl⟩:∃n:Nat,q=n:=⟨q.toNat,by lia⟩;obtain⟨t,rfl⟩:∃n:Nat,t=n:=⟨t.toNat,by lia⟩;obtain⟨b,rfl⟩:∃n:Nat,b=n:=⟨b.toNat,by lia⟩;have h' :=by exact_mod_cast h
 obtain⟨e1,e2⟩:=J3 (by lia) (by lia) (by simpa using hc) h';unfold lq;simp only[aaY];rw[←aee,←aee,e1,e2]
theorem yD {t b:Int}(ht:0<=t)(hb:0<b):0<=(lq t b).1/\0<(lq t b).2/\(lq t b).1*b=t*(lq t b).2/\ab_ (lq t b).1.toNat (lq t b).2.toNat=1/\(lq t b).2 ∣ b:=by
 obtain⟨t,rfl⟩:∃n:Nat,t=n:=⟨t.toNat,by lia⟩;obtain⟨b,rfl⟩:∃n:Nat,b=n:=⟨b.toNat,by lia⟩;have NH:0<b:=by lia
 have hg:0<ab_ t b:=af9 _ NH;have d1:=Nat.gcd_dvd_left t b;have d2:=Nat.gcd_dvd_right t b;unfold lq;simp only[aaY];rw[←aee];refine⟨Int.natCast_nonneg _,?_,?_,?_,?_⟩
 ·have:=Nat.div_pos (Nat.le_of_dvd NH d2) hg;lia
 ·have:t / ab_ t b*b=t*(b / ab_ t b):=by
   generalize ab_ t b=g at d1 d2
   calc t / g*b=t / g*(b / g*g):=by rw[Nat.div_mul_cancel d2]
    _=(t / g*g)*(b / g):=by rw[Nat.mul_comm (b / g) g,Nat.mul_assoc]
    _=t*(b / g):=by rw[Nat.div_mul_cancel d1]
  exact_mod_cast this
 ·exact Nat.coprime_div_gcd_div_gcd hg
 ·exact aeN.mpr (Nat.div_dvd_of_dvd d2)
theorem R0 {t b t' b':Int}(ht:0<=t)(hb:0<b)(Ym:0<=t')(NH:0<b')(h:t*b'=t'*b):lq t b=lq t' b':=by
 obtain⟨r1,r2,r3,r4,_⟩:=yD Ym NH;refine AK r1 r2 ht hb r4 ?_;have:=by
  calc ((lq t' b').1*b)*b'=((lq t' b').1*b')*b:=by rw[adk,Int.mul_comm b b',←adk]
   _=(t'*(lq t' b').2)*b:=by rw[r3]
   _=(t'*b)*(lq t' b').2:=by rw[adk,Int.mul_comm _ b,←adk]
   _=(t*b')*(lq t' b').2:=by rw[h]
   _=(t*(lq t' b').2)*b':=by rw[adk,Int.mul_comm b',←adk]
 exact Int.eq_of_mul_eq_mul_right (by lia) this
theorem J5 {v:Int}(h:0<g)(h2:g<1000000000000):f7 (.int v) (.int g)=.ok (.int (v / g)):=by
 have c:vn v (g:Int)=true:=rQ (by lia) (by lia);simp only[tm,c,if_true]
theorem F2 {t b:Int}(hb:0<b)(h2:b<1000000000000):0<ab_ t.toNat b.toNat/\ab_ t.toNat b.toNat<1000000000000:=by
 have h1:0<b.toNat:=by lia
 refine⟨af9 _ h1,?_⟩;have:=Nat.gcd_le_right t.toNat h1;lia
theorem J6 {t b:Int}(h0:0<=t)(h1:0<b)(h2:b<1000000000000):nR [.int t,.int b]=.ok (yC (lq t b)):=by
 have e:=JS h0 (by lia) h2;obtain⟨g1,g2⟩:=F2 (t:=t) h1 h2;have d:decide (b<0)=false:=hV (by lia);unfold nR yg;simp only[Pzz,dG,e,d,J5 g1 g2];rfl
def uJ (D:Int)(g:Int×Int):Prop:=0<=g.1/\0<g.2/\g.2 ∣ D
noncomputable abbrev Mx:=List (List Int×Int×Int)
noncomputable def mx (p:List Int×Int×Int):U:=.tup [ak p.1,yC p.2]
noncomputable def iz (m:Mx):U:=.lst (m.map mx)
structure Sf (n:Nat)(ss:List (List Int)):Prop where
 n1:1<=n
 n8:n<=8
 o:∀o∈ss,cw n o
 l1:1<=ss.length
 l2:ss.length<=24
structure Wi (n:Nat)(D:Int)(m:Mx):Prop where
 ne:m≠[]
 nd:(m.map (·.1)).Nodup
 el:∀p∈m,p.1.length=n/\uJ D p.2
 ps:∀p∈m,1<=p.2.1
 ln:m.length<=100
 d0:0<D
 d1:D<=1000
def jU {o:List Int}(h:cw n o):∀i∈o,0<=i/\i<n:=λi hi=>eT.mp (h.mem_iff.mp hi)
def bV {o:List Int}(h:cw n o):o.length=n:=by have:=h.length_eq;rwa [bC] at this
noncomputable def ff (l:List (Int×Int)):Nat:=(l.map λg=>g.2.toNat).foldl Nat.lcm 1
theorem AL:∀(l:List Nat) (x D:Nat),(∀y∈l,y ∣ D)->x ∣ D->l.foldl Nat.lcm x ∣ D
 | [],x,D,_,h=>h
 |y::l,x,D,hl,h=>by
  exact AL l _ D (λz hz=>hl z (aan _ hz)) (Nat.lcm_dvd h (hl y aal))
theorem AM:∀(l:List Nat) (x:Nat),x ∣ l.foldl Nat.lcm x/\∀y∈l,y ∣ l.foldl Nat.lcm x
 | [],x=>⟨Nat.dvd_refl _,λy hy=>by cases hy⟩
 |z::l,x=>by
  obtain⟨h1,h2⟩:=AM l _;refine⟨Nat.dvd_trans (Nat.dvd_lcm_left x z) h1,λy hy=>?_⟩;rcases aaw.mp hy with rfl|hy
  ·exact Nat.dvd_trans (Nat.dvd_lcm_right x y) h1
  ·exact h2 y hy
theorem Ei {D:Int}(hD:0<D){l:List (Int×Int)}(h:∀g∈l,uJ D g):ff l ∣ D.toNat:=by
 refine AL _ 1 _ (λy hy=>?_) (Nat.one_dvd _);obtain⟨g,hg,rfl⟩:=aas.mp hy;obtain⟨_,g1,g2⟩:=h g hg;have:((g.2.toNat:Nat):Int) ∣ (D.toNat:Nat):=by
  rw[abz (by lia),abz (by lia)];exact g2
 exact aeN.mp this
theorem rX {D:Int}(hD:0<D){l:List (Int×Int)}(h:∀g∈l,uJ D g):0<ff l:=Nat.pos_of_dvd_of_pos (Ei hD h) (by lia)
theorem J7 {D:Int}(hD:0<D){l:List (Int×Int)}(h:∀g∈l,uJ D g):(ff l:Int)<=D:=by
 have:=Nat.le_of_dvd (by lia) (Ei hD h);lia
theorem J8 {D:Int}{l:List (Int×Int)}(h:∀g∈l,uJ D g):∀g∈l,g.2 ∣ (ff l:Int):=λg hg=>by
 have g1:=(h g hg).2.1;have:=(AM (l.map λg=>g.2.toNat) 1).2 g.2.toNat (aaI hg);have:=aeN.mpr this
 rwa [abz (by lia)] at this
theorem U7 {D:Int}(hD:0<D)(hD2:D<=1000){l:List (Int×Int)}(h:∀g∈l,uJ D g):dA [.lst (l.map yC)]=.ok (.int (ff l)):=by
 obtain⟨ρ,e,o2,rfl⟩:=bF (sg:=bB 2) (s:=fI)
  (λi ρ=>∃o2,ρ=[some _,some (.int (ff (l.take i))),o2])
  (λi u ρ hu h00=>by
   obtain⟨o2,hr⟩:=h00;subst hr;have hi:i<l.length:=by have:=(aap.mp hu).1;rwa [aab] at this
   rw[aar,aac hi] at hu;obtain rfl:yC l[i]=u:=by injection hu
   have hg:=h _ (aaH hi);have ht:∀g∈l.take i,uJ D g:=λg hg=>h g (abf hg);have b0:=rX hD ht;have b1:=J7 hD ht;have g1:=hg.2.1;have g2:=Int.le_of_dvd hD hg.2.2;obtain⟨y,hy⟩:∃y:Nat,l[i].2=y:=⟨l[i].2.toNat,by lia⟩;have gd:=JS (a:=(ff (l.take i):Int)) (b:=(y:Int)) (by lia) (by lia) (by lia);simp only[aaY] at gd;have gp:0<ab_ _ y:=aeM _ b0;have gl:ab_ _ y<=ff _:=Nat.gcd_le_left _ b0;have c1:jy (ff (l.take i):Int) (y:Int)=true:=ph (by lia) (by lia);have st:ff (l.take (i+1))=Nat.lcm (ff (l.take i)) y:=by
    unfold ff;rw[aaL hi,aaG,adX,aag,acA,abv,List.foldl_nil,hy,aaY]
   have lc:((ff (l.take i):Int)*(y:Int)) / ((ab_ (ff (l.take i)) y:Nat):Int)=((Nat.lcm (ff (l.take i)) y:Nat):Int):=by
    unfold Nat.lcm;rw[aee,afC]
   rw[st];refine⟨[some _,some _,some _],[some _,some _,some (yC l[i])],rfl,.inl ?_,_,rfl⟩;unfold fI;unfold yC;rw[hy];simp only[Pzz,c1,gd,J5 gp (by lia),lc])
  (ρ:=[some (.lst (l.map yC)),some (.int 1),none]) ⟨_,rfl⟩
 rw[aab,abh] at e;unfold dA gA;simp only[Pzz,dG,e]
noncomputable def rq (B:Int)(m:Mx):Dc:=m.map λp=>(p.1,p.2.1*(B / p.2.2))
theorem U8 {v b:Int}(h:0<b)(h2:b<1000000000000):f7 (.int v) (.int b)=.ok (.int (v / b)):=by
 obtain⟨g,rfl⟩:∃g:Nat,b=g:=⟨b.toNat,by lia⟩;exact J5 (by lia) (by lia)
theorem R1 {D:Int}{m:Mx}(hm:Wi n D m){B:Nat}(hB:(B:Int)<=1000){x1 o4 o5 o6:Option U} :
  ∃o4' o5',d6 (du 2 (aM (bB 4) (aM (bB 5) dD))) iL (m.map mx) [some (iz m),x1,some (.int B),some (.dct [] []),o4,o5,o6]=.nx [some (iz m),x1,some (.int B),some (DU (rq B m)),o4',o5',o6]:=by
 have ln:=hm.ln;have d1:=hm.d1;obtain⟨ρ,e,o4',o5',rfl⟩:=bF (sg:=du 2 (aM (bB 4) (aM (bB 5) dD))) (s:=iL)
  (λi ρ=>∃o4 o5,ρ=[some (iz m),x1,some (.int B),some (DU (rq B (m.take i))),o4,o5,o6])
  (λi u ρ hu h00=>by
   obtain⟨o4,o5,hr⟩:=h00;subst hr;have hi:i<m.length:=by have:=(aap.mp hu).1;rwa [aab] at this
   rw[aar,aac hi] at hu;obtain rfl:mx m[i]=u:=by injection hu
   obtain⟨_,e2,e3,e4⟩:=hm.el _ (aaH hi);have le2:=Int.le_of_dvd hm.d0 e4;have ql:(rq B (m.take i)).length<1000000:=by unfold rq;rw[aab,aaE];lia
   have q0:0<=(B:Int) / m[i].2.2:=Int.ediv_nonneg (by lia) (by lia);have q1:(B:Int) / m[i].2.2<=B:=Int.ediv_le_self _ (by lia);have c:jy m[i].2.1 _=true:=ph q0 (by lia);have nk:m[i].1∉(rq B _).map (·.1):=λz=>by
    unfold rq at z;rw[aaq] at z;obtain⟨p,hp,e⟩:=aas.mp z;have nd:=hm.nd;rw[←abg i m,aaG,adS] at nd;refine nd.2.2 p.1 (aaI hp) m[i].1 (aaI ?_) e;rw[abK hi];exact aal
   have sn:rq B (m.take (i+1))=jg (rq B (m.take i)) m[i].1 (m[i].2.1*((B:Int) / m[i].2.2)):=by
    rw[M_ _ nk];unfold rq;rw[aaL hi,aaG];rfl
   rw[sn];refine⟨[some (iz m),x1,some (.int B),some _,some _,some _,o6],[some (iz m),x1,some (.int B),some _,some (ak m[i].1),some (yC m[i].2),o6],La,.inl ?_,_,_,rfl⟩;unfold iL yC;simp only[Pzz,mH,oz ql,U8 e3 (by lia),c])
  ⟨_,_,rfl⟩
 rw[aab,abh] at e;exact⟨o4',o5',e⟩
noncomputable def d8 (W C:Dc):List (List Int×Int):=C.flatMap λo=>W.map λr=>(av r.1 o.1,r.2*o.2)
theorem wO (W C:Dc):(d8 W C).length=C.length*W.length:=by
 unfold d8
 induction C with
 |nil=>simp
 |cons o C ih=>rw[abL,aaj,ih,aab,aat,Nat.add_mul,Nat.one_mul,Nat.add_comm]
theorem U9 {W:Dc}(hW:W≠[])(wl:W.length<=100)(hr:∀r∈W,r.1.length=n){o:List Int×Int}(ho:cw n o.1)(n8:n<=8)(ho0:0<=o.2)(Zo:o.2<1000){ws:List (List Int×Int)}(wb:ws.length<10000){x1 o5 o6 o7:Option U} :
  ∃o5' o6' o7',pJ [some (DU W),x1,some (DU (aR [] ws)),some (ak o.1),some (.int o.2),o5,o6,o7]=.nx [some (DU W),x1,some (DU (aR [] (ws++W.map λr=>(av r.1 o.1,r.2*o.2)))),some (ak o.1),some (.int o.2),o5',o6',o7']:=by
 obtain⟨ρ,e,o5',o6',o7',rfl⟩:=bF (sg:=du 2 (aM (bB 5) (aM (bB 6) dD))) (s:=pH)
  (λi ρ=>∃o5 o6 o7,ρ=[some (DU W),x1,some (DU (aR [] (ws++(W.take i).map λr=>(av r.1 o.1,r.2*o.2)))),some (ak o.1),some (.int o.2),o5,o6,o7])
  (λi u ρ hu h00=>by
   obtain⟨o5,o6,o7,hr'⟩:=h00;subst hr';have hi:i<W.length:=by have:=(aap.mp hu).1;rwa [aab] at this
   rw[aar,aac hi] at hu;obtain rfl:RV W[i]=u:=by injection hu
   have el:=hr _ (aaH hi);have lo:=JV (λj hj=>by rw[el];exact jU ho j hj) (by rw[bV ho];lia);have ql:(aR [] (ws++(W.take i).map λr=>(av r.1 o.1,r.2*o.2))).length<1000000:=by
    have:=iy (ws++(W.take i).map λr=>(av r.1 o.1,r.2*o.2));rw[aaj,aab,aaE] at this;lia
   have c:jy W[i].2 o.2=true:=ph ho0 (by lia);have sn:aR [] (ws++(W.take (i+1)).map λr=>(av r.1 o.1,r.2*o.2))=og (aR [] (ws++(W.take i).map λr=>(av r.1 o.1,r.2*o.2))) (av W[i].1 o.1) (W[i].2*o.2):=by
    rw[aaL hi,aaG,←aaP,aag,acA,kH]
   rw[sn];refine⟨[some (DU W),x1,some _,some _,some _,some _,some _,o7],_,La,.inl ?_,some (ak W[i].1),some (.int W[i].2),some (ak (av W[i].1 o.1)),rfl⟩;unfold pH;simp only[Pzz,lo,mH,yx,yy,yz,c,oz ql];rfl)
  (ρ:=[some (DU W),x1,some (DU (aR [] ws)),some (ak o.1),some (.int o.2),o5,o6,o7]) ⟨o5,o6,o7,by simp⟩
 rw[aab,abh] at e;refine⟨o5',o6',o7',?_⟩;unfold pJ;simp only[Pzz,JT,oA hW,e]
noncomputable def pU (cD:List (List Int))(x:List Int):List (List Int):=if x∈cD then cD else cD++[x]
theorem lu:∀(l cD:List (List Int)) (x:List Int),x∈l.foldl pU cD↔x∈cD\/x∈l
 | [],cD,x=>by simp
 |y::l,cD,x=>by
  rw[abv,lu l _ x,aaw];unfold pU;split
  ·rename_i c;constructor
   ·rintro (h|h)
    ·exact .inl h
    ·exact .inr (.inr h)
   ·rintro (h|h|h)
    ·exact .inl h
    ·rw[h];exact .inl c
    ·exact .inr h
  ·rw[aaQ,aaK];constructor
   ·rintro ((h|h)|h)
    ·exact .inl h
    ·exact .inr (.inl h)
    ·exact .inr (.inr h)
   ·rintro (h|h|h)
    ·exact .inl (.inl h)
    ·exact .inl (.inr h)
    ·exact .inr h
def J9 (l:List (List Int)):∀p∈aF l,p.2<=l.length:=λp hp=>by
 have:=JL (bM l).2.1 p hp
 rwa [om] at this
theorem Cq {l:List (List Int)}(h:1<=l.length):aF l≠[]:=λe=>by
 have:=om l;rw[e] at this;unfold mG at this;simp at this;lia
theorem F3 {W:Dc}(hW:W≠[])(wl:W.length<=100)(hr:∀r∈W,r.1.length=n){ss:List (List Int)}(hs:Sf n ss):nS [DU W,SU ss]=.ok (DU (aR [] (d8 W (aF ss)))):=by
 have Gp:=hs.l2;have cl:=oD ss;obtain⟨cn,cp,_⟩:=bM ss;have co:=fP (lh ss) (by lia);obtain⟨ρ,e,o3,o4,o5,o6,o7,rfl⟩:=bF (sg:=du 2 (aM (bB 3) (aM (bB 4) dD)))
  (λi ρ=>∃o3 o4 o5 o6 o7,ρ=[some (DU W),some (SU ss),some (DU (aR [] (d8 W ((aF ss).take i)))),o3,o4,o5,o6,o7])
  (λi u ρ hu h00=>by
   obtain⟨o3,o4,o5,o6,o7,hr'⟩:=h00;subst hr';have hi:i<(aF ss).length:=by have:=(aap.mp hu).1;rwa [aab] at this
   rw[aar,aac hi] at hu;obtain rfl:RV _=u:=by injection hu
   have hm:=aaH hi;have p1:=cp _ hm;have p2:=J9 ss _ hm;have pl:(d8 W ((aF ss).take i)).length<10000:=by
    rw[wO,aaE];have:min i (aF ss).length*W.length<=24*100:=ae2 (by lia) wl;lia
   obtain⟨o5',o6',o7',q⟩:=U9 hW wl hr (hs.o _ (ll hm)) hs.n8 (by lia) (by lia) pl;have ef:d8 W ((aF ss).take (i+1))=d8 W ((aF ss).take i)++W.map λr=>(av r.1 (aF ss)[i].1,r.2*(aF ss)[i].2):=by
    unfold d8;rw[aaL hi,afB,abL,List.flatMap_nil,aa2]
   rw[ef];exact⟨_,_,La,.inl q,_,_,_,_,_,rfl⟩)
  (ρ:=[some (DU W),some (SU ss),some (DU []),none,none,none,none,none]) ⟨_,_,_,_,_,rfl⟩
 rw[aab,abh] at e;have e0:DU []=.dct [] []:=rfl;rw[e0] at e;unfold nS ur;simp only[Pzz,dG,co,JT,oA (Cq hs.l1),e]
noncomputable def iF (m:Mx):Dc:=rq (ff (m.map (·.2)):Nat) m
noncomputable def R3 (m:Mx)(ss:List (List Int)):Mx:=(bG ((aR [] (d8 (iF m) (aF ss))).map (·.1))).map λk=>(k,lq (bu (aR [] (d8 (iF m) (aF ss))) k) ((ff (m.map (·.2)):Nat)*(ss.length:Nat)))
theorem uK:∀(ws:List (List Int×Int)) (d:Dc),(aR d ws).map (·.1)=(ws.map (·.1)).foldl pU (d.map (·.1))
 | [],d=>rfl
 |w::ws,d=>by
  show (aR _ ws).map (·.1)=_;rw[uK ws,aag,abv];unfold og;rw[kE];rfl
theorem uL {D:Int}{m:Mx}{ss:List (List Int)}(hm:Wi n D m)(hs:Sf n ss):iF m≠[]/\(iF m).length<=100/\(∀r∈iF m,r.1.length=n/\1<=r.2)/\(∀p∈d8 (iF m) (aF ss),1<=p.2/\p.1.length=n):=by
 have fr:∀g∈m.map (·.2),uJ D g:=λg hg=>by
  obtain⟨p,hp,rfl⟩:=aas.mp hg;exact (hm.el p hp).2
 have w:∀r∈iF m,r.1.length=n/\1<=r.2:=λr hr=>by
  obtain⟨p,hp,rfl⟩:=aas.mp hr;refine⟨(hm.el p hp).1,?_⟩;have a1:=hm.ps p hp;have b0:=(hm.el p hp).2.2.1;have dv:=J8 fr p.2 (aaI hp);have bp:=rX hm.d0 fr;have:1<=(ff (m.map (·.2)):Int) / p.2.2:=by
   have:=Int.le_of_dvd (by lia) dv;exact Int.le_ediv_of_mul_le b0 (by lia)
  calc (1:Int)=1*1:=rfl
   _<=p.2.1*((ff _:Int) / p.2.2):=afT a1 this (by decide) (by lia)
 refine⟨λe=>hm.ne ?_,?_,w,λp hp=>?_⟩
 ·exact adm.mp e
 ·unfold iF rq;rw[aab];exact hm.ln
 ·obtain⟨o,ho,hp⟩:=acI.mp hp;obtain⟨r,hr,rfl⟩:=aas.mp hp;have o1:=(bM ss).2.1 o ho;have r1:=(w r hr).2;refine⟨?_,?_⟩
  ·calc (1:Int)=1*1:=rfl
    _<=r.2*o.2:=afT r1 o1 (by decide) (by lia)
  ·unfold av;rw[aab];exact bV (hs.o _ (ll ho))
theorem AN {D:Int}{m:Mx}{ss:List (List Int)}(hm:Wi n D m)(hs:Sf n ss):eW [iz m,SU ss]=.ok (iz (R3 m ss)):=by
 have fr:∀g∈m.map (·.2),uJ D g:=λg hg=>by
  obtain⟨p,hp,rfl⟩:=aas.mp hg;exact (hm.el p hp).2
 have bp:=rX hm.d0 fr;have bl:=J7 hm.d0 fr;have d1:=hm.d1;have cb:=U7 hm.d0 hm.d1 fr;obtain⟨w1,w2,w3,w4⟩:=uL hm hs;have sp:=F3 w1 w2 (λr hr=>(w3 r hr).1) hs;obtain⟨gn,gp,_⟩:=gT _ iZ.1 iZ.2 λp hp=>(w4 p hp).1;have gl:(aR [] (d8 (iF m) (aF ss))).length<=2400:=by
  have h1:=iy (d8 (iF m) (aF ss));rw[wO] at h1;have h2:=ae2 (aaR (oD ss) hs.l2) w2;lia
 have gk:∀k∈(aR [] _).map (·.1),k.length=n:=λk hk=>by
  rw[uK] at hk;rcases (lu _ _ _).mp hk with z|z
  ·cases z
  ·obtain⟨p,hp,rfl⟩:=aas.mp z;exact (w4 p hp).2
 have gne:aR [] _≠[]:=λe=>by
  have h0:((d8 (iF m) (aF ss)).map (·.1)).foldl pU []=[]:=by rw[←acA,←uK,e]
  obtain⟨r,W',ew⟩:∃r W',iF m=r::W':=by
   cases hq:iF m with
   |nil=>exact absurd hq w1
   |cons r W'=>exact⟨r,W',rfl⟩
  obtain⟨o,C',ec⟩:∃o C',aF ss=o::C':=by
   cases hq:aF ss with
   |nil=>exact absurd hq (Cq hs.l1)
   |cons r W'=>exact⟨r,W',rfl⟩
  have:av r.1 o.1∈((d8 (iF m) (aF ss)).map (·.1)).foldl pU []:=(lu _ _ _).mpr (.inr (by
   unfold d8;rw[ec,ew,abL,aaG,aag];exact abX _ aal))
  rw[h0] at this;cases this
 have so:=pT gne (by lia) λp hp e=>by
  have:=gk p.1 (aaI hp);rw[e] at this;have:=hs.n1;simp at *;lia
 obtain⟨o4,o5,wo⟩:=R1 hm (B:=ff (m.map (·.2))) (by lia) (o4:=none) (o5:=none);have D1:0<((ff (m.map (·.2)):Nat):Int)*(ss.length:Nat):=Int.mul_pos (by lia) (by have:=hs.l1;lia);have D2:((ff (m.map (·.2)):Nat):Int)*(ss.length:Nat)<=1000*24:=afT (by lia) (by have:=hs.l2;lia) (by lia) (by decide);have cm:jy ((ff (m.map (·.2)):Nat):Int) ((ss.length:Nat):Int)=true:=ph (by lia) (by have:=hs.l2;lia);have l1:=de (xs:=m) λp hp=>by
  have:xw [none,none] (du 2 (aM (bB 0) (aM (bB 1) dD))) cR (ae 1) [some (iz m),some (SU ss),none,none,none,none,none] (mx p)=.ok (some (yC p.2)):=by
   unfold mx;simp only[Pzz,La]
  exact this
 have el:=de (f:=xw [none,some 6,some 2,some 1] (bB 0) cR (eC (af (ae 0) (af (eR 2 nR (af (bb zC (ae 1) (ae 0)) (af (bb d7 (ae 2) (gq iR (af (ae 3) ao))) ao))) ao))) [some (iz m),some (SU ss),some (.int (ff (m.map (·.2)):Nat)),some (DU (iF m)),o4,o5,some (DU (aR [] (d8 (iF m) (aF ss))))]) (c:=ak) (xs:=bG ((aR [] (d8 (iF m) (aF ss))).map (·.1))) λk hk=>by
  have A_:=(ba _).mem_iff.mp hk;have ra:=J6 (cJ gp k) D1 (by lia);have lS:iR [SU ss]=.ok (.int (ss.length:Nat)):=by unfold SU;rw[xN,aab]
  simp only[Pzz,Pb A_,lS,cm,ra];rfl
 have sz:((bG ((aR [] (d8 (iF m) (aF ss))).map (·.1))).map λk=>mx (k,lq (bu (aR [] (d8 (iF m) (aF ss))) k) ((ff (m.map (·.2)):Nat)*(ss.length:Nat)))).length<=aah:=by
  have:aah=16777216:=rfl;rw[aab,(ba _).length_eq,aab];lia
 have Zf:(m.map λp=>yC p.2).length<=aah:=by
  have:aah=16777216:=rfl;have:=hm.ln;rw[aab];lia
 have cb':dA [.lst (m.map λp=>yC p.2)]=.ok (.int (ff (m.map (·.2)):Nat)):=by rw[aaq] at cb;exact cb
 have sb:vq (iz m) [some (iz m),some (SU ss),none,none,none,none,none]=.ok _:=xK;have Wx:vq (iz m) [some (iz m),some (SU ss),some (.int (ff (m.map (·.2)):Nat)),some (.dct [] []),none,none,none]=.ok _:=xK;unfold eW mq;have wo':d6 _ _ _ _=.nx [some (iz m),some (SU ss),some _,some (DU (iF m)),o4,o5,none]:=wo;simp only[Pzz,dG,sb,Wx,l1,cb',wo',JU,sp,so,el,sz];unfold iz R3;rw[aaq];rfl
theorem rY (p:Ps d){k:Rw}:k∈d.map (·.1)↔0<bu d k:=by
 constructor
 ·intro h;have:=p _ (fO h);lia
 ·intro h;by_cases c:k∈d.map (·.1)
  ·exact c
  ·rw[eD c] at h;lia
theorem Pd {e:Dc}(nd:Nd d)(ne:Nd e)(pd:Ps d)(pe:Ps e){s t:Nat}(hs:0<s)(ht:0<t)(h:∀f,(s:Int)*cO d f=t*cO e f) :
  (∀k,(s:Int)*bu d k=t*bu e k)/\(d.map (·.1)).Perm (e.map (·.1)):=by
 have g:∀k,(s:Int)*bu d k=t*bu e k:=λk=>by
  rw[←jh nd k,←jh ne k];exact h _
 refine⟨g,?_⟩;refine (ad0 nd ne).mpr λk=>?_;rw[rY pd,rY pe];have oN:(0:Int)<s:=by lia
 have Ym:(0:Int)<t:=by lia
 have:=g k;constructor
 ·intro z;have:0<(t:Int)*bu e k:=by rw[←this];exact Int.mul_pos oN z
  exact af_ this (by lia)
 ·intro z;have:0<(s:Int)*bu d k:=by rw[this];exact Int.mul_pos Ym z
  exact af_ this (by lia)
noncomputable def cn (d:Dc)(b:Int):Mx:=(bG (d.map (·.1))).map λk=>(k,lq (bu d k) b)
theorem U_ {e:Dc}(nd:Nd d)(ne:Nd e)(pd:Ps d)(pe:Ps e){s t:Nat}(hs:0<s)(ht:0<t)(h:∀f,(s:Int)*cO d f=t*cO e f){b c:Int}(hb:0<b)(hc:0<c)(hbc:(s:Int)*b=t*c):cn d b=cn e c:=by
 obtain⟨g,p⟩:=Pd nd ne pd pe hs ht h;unfold cn;rw[iY p];apply aaB;intro k _;have a1:=cJ pd k;have a2:=cJ pe k;have e:=by
  refine R0 a1 hb a2 hc ?_;have g':=g k;have gj:(s:Int)*t≠0:=Int.mul_ne_zero (by lia) (by lia);refine afU gj ?_
  calc (s:Int)*t*(bu d k*c)=(s*bu d k)*(t*c):=by ac_rfl
   _=(t*bu e k)*(s*b):=by rw[g',←hbc]
   _=s*t*(bu e k*b):=by ac_rfl
 rw[e]
theorem jV (s:Nat):∀(l:List Nat) (g:Nat),(l.map λx=>s*x).foldl ab_ (s*g)=s*l.foldl ab_ g
 | [],g=>rfl
 |x::l,g=>by rw[aag,abv,Nat.gcd_mul_left,jV s l,abv]
theorem uM {e:Dc}(nd:Nd d)(ne:Nd e)(sd:Sm d)(pe:Ps e){s t:Nat}(hs:0<s)(ht:0<t)(h:∀f,(s:Int)*cO d f=t*cO e f):(aW d).Perm (aW e):=by
 have pd:=sd.ps;obtain⟨g,p⟩:=Pd nd ne pd pe hs ht h;have pm:(d.map λx=>(x.1,bu e x.1)).Perm e:=by
  have e1:(e.map λx=>(x.1,bu e x.1))=e:=by
   conv=>rhs;rw[←aeh e]
   apply aaB;intro x hx;rw[eE ne hx];rfl
  have:=p.map λk=>(k,bu e k);rw[aaq,aaq] at this;exact (this.trans (by show (e.map λx=>(x.1,bu e x.1)).Perm e;rw[e1]))
 refine age.trans ?_ (uC pm);have hg:s*fe d=t*fe (d.map λx=>(x.1,bu e x.1)):=by
  unfold fe;rw[←jV,←jV,aaq,aaq,aaq,Nat.mul_zero];congr 1;apply aaB;intro x hx;have a:=g x.1;rw[eE nd hx] at a;have b:=pd x hx;have c:=cJ pe x.1;have:((s*x.2.toNat:Nat):Int)=((t*(bu e x.1).toNat:Nat):Int):=by
   rw[afC,afC,abz (by lia),abz c];exact a
  exact Int.ofNat.inj this
 have g0:=oB sd;generalize hG:fe (d.map _)=G at hg;unfold aW;rw[aaq,hG];have:(d.map λp=>(p.1,p.2 / (fe d:Int)))=d.map ((λp=>(p.1,p.2 / (G:Int)))∘λx=>(x.1,bu e x.1)):=by
  apply aaB;intro x hx;show (x.1,x.2 / (fe d:Int))=(x.1,bu e x.1 / (G:Int));have a:=g x.1;rw[eE nd hx] at a;have G0:0<G:=by
   rcases Nat.eq_zero_or_pos G with z|z
   ·rw[z] at hg;have:=Nat.mul_pos hs g0;lia
   ·exact z
  have hg' :=by have:=congrArg (λx:Nat=>(x:Int)) hg;simpa only[afC] using this
  have dv:=by
   have q:=oE x hx;have:=pd x hx;have z:=Int.ofNat_dvd.mpr q
   rwa [abz (by lia)] at z
  have dw:=by
   have q:=oE (d:=d.map λx=>(x.1,bu e x.1)) _ (aaI hx);rw[hG] at q;have z:=Int.ofNat_dvd.mpr q
   rwa [abz (cJ pe x.1)] at z
  obtain⟨u,hu⟩:=dv;obtain⟨v,hv⟩:=dw;rw[hu,hv,adf _ (by lia),adf _ (by lia)];rw[hu,hv] at a;have:=by
   calc (s:Int)*(fe d:Int)*u=s*(fe d*u):=by ac_rfl
    _=t*(G*v):=a
    _=(t*G)*v:=by ac_rfl
    _=s*fe d*v:=by rw[←hg']
  rw[afU (Int.mul_ne_zero (by lia) (by lia)) this]
 rw[this]
noncomputable def S (l:List Rw)(f:Rw->Int):Int:=(l.map f).sum
def Pe (l m:List Rw)(f:Rw->Int):S (gf av l m) f=S l λa=>S m λb=>f (av a b):=by
 unfold S gf;rw[ji];congr 1;apply aaB;intro a _;rw[aaq];rfl
def J_ (k:Int)(l:List Rw)(f:Rw->Int):k*S l f=S l λx=>k*f x:=by
 unfold S;rw[←jR,aaq];rfl
def oF {f g:Rw->Int}(h:∀x∈l,f x=g x):S l f=S l g:=by
 unfold S;rw[aaB h]
theorem Va (l:List Rw)(f g:Rw->Int):S l (λx=>f x+g x)=S l f+S l g:=by
 unfold S
 induction l with
 |nil=>rfl
 |cons a l ih=>rw[aag,aaV,aag,aaV,aag,aaV,ih];lia
theorem R4 (l m:List Rw)(g:Rw->Rw->Int):(S l λa=>S m λb=>g a b)=S m λb=>S l λa=>g a b:=by
 induction l with
 |nil=>
  unfold S
  induction m with
  |nil=>rfl
  |cons b m ih=>rw[aag,aaV,←ih];rfl
 |cons a l ih=>
  have e1:(S (a::l) λa=>S m λb=>g a b)=(S m λb=>g a b)+S l λa=>S m λb=>g a b:=by unfold S;rw[aag,aaV]
  have e2:(S m λb=>S (a::l) _)=S m λb=>g a b+S l _:=oF λb _=>by unfold S;rw[aag,aaV]
  rw[e1,ih,e2,Va]
theorem Ka (l:List Rw):S l (λ_=>1)=l.length:=by
 unfold S
 induction l with
 |nil=>rfl
 |cons a l ih=>rw[aag,aaV,ih,aat];lia
def uN (l:List Rw)(f:Rw->Int):cO (aF l) f=S l f:=(bM l).2.2 f
noncomputable def dQ (l:List Rw):Mx:=cn (aF l) l.length
def AO (d:Dc)(n:Nd d)(f:Rw->Int):((bG (d.map (·.1))).map λk=>bu d k*f k).sum=cO d f:=by
 rw[oj ((ba _).map _),aaq];congr 1;apply aaB;intro q hq;show bu d q.1*f q.1=q.2*f q.1;rw[eE n hq]
theorem kJ {k:Rw}:k∈(aF l).map (·.1)↔k∈l:=by
 constructor
 ·intro h;exact ll (fO h)
 ·intro h;rw[rY (bM l).2.1,←jh (bM l).1,uN];unfold S
  induction l with
  |nil=>cases h
  |cons a l ih=>
   rw[aag,aaV];have nn:=by
    have:∀l:List Rw,0<=(l.map λx=>if x=k then (1:Int) else 0).sum:=by
     intro l
     induction l with
     |nil=>exact ae0 _
     |cons a l ih=>rw[aag,aaV];split<;>lia
    exact this l
   rcases aaw.mp h with rfl|h
   ·rw[h9 rfl];lia
   ·have:=ih h;split<;>lia
theorem AQ (hL:L≠[])(hn:∀r∈L,r.length=n)(h:L.length<=100):Wi n L.length (dQ L):=by
 have l0:=abi.mpr hL;have sp:=ba ((aF L).map (·.1));have e1:(dQ L).map (·.1)=bG ((aF L).map (·.1)):=by
  unfold dQ cn;rw[aaq];exact aeh _
 have el:∀p∈dQ L,p.1∈L/\p.2=lq (bu (aF L) p.1) L.length:=λp hp=>by
  obtain⟨k,hk,rfl⟩:=aas.mp hp;exact⟨kJ.mp (sp.mem_iff.mp hk),rfl⟩
 have lc:(dQ L).length<=L.length:=by
  unfold dQ cn;rw[aab,sp.length_eq,aab];exact oD L
 refine⟨λz=>?_,?_,λp hp=>?_,λp hp=>?_,by lia,by lia,by lia⟩
 ·have:bG ((aF L).map (·.1))=[]:=by rw[←e1,z];rfl
  rw[this] at sp;have z2:=sp.symm.eq_nil;rw[adm] at z2;exact Cq l0 z2
 ·rw[e1];exact sp.nodup_iff.mpr (bM L).1
 ·obtain⟨a,b⟩:=el p hp;have r:=yD (t:=bu (aF L) p.1) (b:=L.length) (cJ (bM L).2.1 _) (by lia);rw[←b] at r;exact⟨hn _ a,r.1,r.2.1,r.2.2.2.2⟩
 ·obtain⟨a,b⟩:=el p hp;have c:=(rY (bM L).2.1).mp (kJ.mpr a);have r:=yD (t:=bu (aF L) p.1) (b:=L.length) (by lia) (by lia);rw[←b] at r;have z:0<p.2.1*(L.length:Int):=by rw[r.2.2.1];exact Int.mul_pos c r.2.1
  rcases Int.lt_or_le 0 p.2.1 with y|y
  ·lia
  ·have:=ae9 y (show (0:Int)<=L.length by lia);lia
theorem Vb (hL:L≠[])(hn:∀r∈L,r.length=n)(h:L.length<=100)(f:Rw->Int) :
  (L.length:Int)*cO (iF (dQ L)) f=(ff ((dQ L).map (·.2)):Nat)*S L f:=by
 have ok:=AQ hL hn h;have fr:∀g∈(dQ L).map (·.2),uJ L.length g:=λg hg=>by
  obtain⟨p,hp,rfl⟩:=aas.mp hg;exact (ok.el p hp).2
 have l0:=abi.mpr hL;rw[←uN,←AO _ (bM L).1,←jR,aaq];unfold cO iF rq;rw[aaq,←jR,aaq];have dv:=J8 fr;generalize ff _=B at dv ⊢;unfold dQ cn at dv ⊢;rw[aaq];congr 1;apply aaB;intro k hk;show (L.length:Int)*((lq _ L.length).1*((B:Int) / (lq _ L.length).2)*f k)=B*(bu (aF L) k*f k);have r:=yD (t:=bu (aF L) k) (b:=L.length) (cJ (bM L).2.1 _) (by lia);have dk:=dv (lq _ L.length) (aas.mpr ⟨(k,_),aas.mpr ⟨k,hk,rfl⟩,rfl⟩);obtain⟨q,hq⟩:=dk;have r2:=r.2.1;have r3:=r.2.2.1;generalize lq _ L.length=g at hq r2 r3 ⊢;rw[hq,adf _ (by lia)]
 calc (L.length:Int)*(g.1*q*f k)=(g.1*L.length)*(q*f k):=by ac_rfl
  _=bu (aF L) k*g.2*(q*f k):=by rw[r3]
  _=g.2*q*(bu (aF L) k*f k):=by ac_rfl
def F4 (W C:Dc)(f:Rw->Int):((d8 W C).map λp=>p.2*f p.1).sum=cO C λo=>cO W λr=>f (av r o):=by
 unfold d8;rw[ji];unfold cO;congr 1;apply aaB;intro o _;rw[aaq,←jR,aaq];congr 1;apply aaB;intro r _;show r.2*o.2*f _=o.2*(r.2*f _)
 ac_rfl
theorem kK (l m:List (List Int)):(gf av l m).length=l.length*m.length:=by
 unfold gf
 induction l with
 |nil=>simp
 |cons a l ih=>rw[abL,aaj,ih,aab,aat,Nat.succ_mul,Nat.add_comm]
def Ej {m:List Rw}(hl:l≠[])(hm:m≠[]):gf av l m≠[]:=by
 rw[←abi,kK];exact Nat.mul_pos (abi.mpr hl) (abi.mpr hm)
theorem Cr (hL:L≠[])(hn:∀r∈L,r.length=n)(h:L.length<=100)(hs:Sf n ss) :
  eW [iz (dQ L),SU ss]=.ok (iz (dQ (gf av L ss))):=by
 have ok:=AQ hL hn h;have l0:=abi.mpr hL;have sl:=hs.l1;obtain⟨w1,w2,w3,w4⟩:=uL ok hs;obtain⟨gn,gp,gs⟩:=gT _ iZ.1 iZ.2 λp hp=>(w4 p hp).1;have fr:∀g∈(dQ L).map (·.2),uJ L.length g:=λg hg=>by
  obtain⟨p,hp,rfl⟩:=aas.mp hg;exact (ok.el p hp).2
 have bp:=rX ok.d0 fr;have hf:∀f,((L.length:Nat):Int)*cO _ f=((ff _:Nat):Int)*cO (aF _) f:=λf=>by
  have z:cO [] f=0:=rfl;rw[gs,z,Int.zero_add,F4,uN,uN,Pe,R4,J_,J_];exact oF λo _=>Vb hL hn h _
 have an:=bM (gf av L ss);rw[AN ok hs];have:R3 (dQ L) ss=dQ (gf av L ss):=by
  refine U_ gn an.1 gp an.2.1 l0 bp hf (Int.mul_pos (by lia) (by lia)) ?_ ?_
  ·rw[kK];have:=Nat.mul_pos l0 (show 0<ss.length by lia);lia
  ·rw[kK];exact Int.mul_left_comm ..
 rw[this]
def F5 (r:Rw):dQ [r]=[(r,(1,1))]:=by
 have e:aF [r]=[(r,1)]:=by
  rfl
 have s:=List.perm_singleton.mp (ba [r]);unfold dQ cn;rw[e];show (bG [r]).map _=_;show [(r,lq _ 1)]=_;rw[fN,h9 rfl];show [(r,lq 1 1)]=_;exact congrArg (λz=>[(r,z)]) (AK (by decide) (by decide) (by decide) (by decide) (by decide) (by decide))
noncomputable def Fl (l:List Rw):List Rw:=pR (aW (aF l))
theorem Nc (f:Rw->Int)(k:Rw)(m:Nat):((aa9 m k).map f).sum=(m:Int)*f k:=by
 induction m with
 |zero=>simp
 |succ m ih=>rw[aei,aag,aaV,ih,Int.natCast_add,Int.add_mul];lia
def Vc (n:Nd d)(p:Ps d)(f:Rw->Int):S (pR d) f=cO d f:=by
 unfold S pR;rw[ji,←AO d n];congr 1;apply aaB;intro k _;rw[Nc,abz (cJ p k)]
theorem Kb (h:Sm d)(f:Rw->Int):(fe d:Int)*cO (aW d) f=cO d f:=by
 unfold cO aW;rw[aaq,←jR,aaq];congr 1;apply aaB;intro q hq;show (fe d:Int)*(q.2 / (fe d:Int)*f q.1)=q.2*f q.1;have dv:=Int.ofNat_dvd.mpr (oE q hq);have:=h.ps q hq;rw[abz (by lia)] at dv;rw[←adk,Int.mul_ediv_cancel' dv]
def R5 (h:l≠[])(hl:l.length<1000)(f:Rw->Int):(fe (aF l):Int)*S (Fl l) f=S l f:=by
 have s:=i0 h hl;unfold Fl;rw[Vc (jQ s.nd) (yB s),Kb s,uN]
def Vd (h:l≠[])(hl:l.length<1000):0<fe (aF l):=oB (i0 h hl)
def Ve {m:List Rw}(hl:l≠[])(Gp:l.length<1000){s t:Nat}(hs:0<s)(ht:0<t)(h:∀f,(s:Int)*S l f=t*S m f):Fl l=Fl m:=
 wK (uM (bM l).1 (bM m).1 (i0 hl Gp) (bM m).2.1 hs ht λf=>by rw[uN,uN];exact h f) (jQ (bM l).1)
theorem R6 {x:Rw}(h:x∈Fl l):x∈l:=by
 obtain⟨k,hk,hx⟩:=acI.mp h;rw[List.eq_of_mem_replicate hx];have:=(ba _).mem_iff.mp hk;unfold aW at this;rw[aaq] at this;exact kJ.mp this
def Kc (h:l≠[])(hl:l.length<1000):(fe (aF l):Int)*(Fl l).length=l.length:=by
 have:=R5 h hl λ_=>1
 rwa [Ka,Ka] at this
theorem Pf (h:l≠[])(hl:l.length<1000):Fl l≠[]:=λe=>by
 have:=Kc h hl;rw[e,adH] at this;have:=abi.mpr h;lia
theorem Pg (h:l≠[])(hl:l.length<1000):(Fl l).length<=l.length:=by
 have a:=Kc h hl;have b:=Vd h hl;have:(1:Int)*(Fl l).length<=(fe (aF l):Int)*(Fl l).length:=ae9 (by lia) (by lia);lia
theorem Nf {l m:List (List Int)}(hl:Sh n l)(hm:Sh n m)(h:l.length*m.length<1000) :
  my [SU l,SU m]=if 24<(Fl (gf av l m)).length then .exc "TooMany" .non else .ok (SU (Fl (gf av l m))):=by
 have p:=uC (wM av l m);have e1:pR (AJ l m)=Fl _:=wK p (jQ (Eg hl.ne hm.ne h).nd);have s:=i0 (Ej hl.ne hm.ne) (by rw[kK];exact h);have e2:mG (AJ l m)=((Fl (gf av l m)).length:Nat):=by
  have:=MY (jQ s.nd) λq hq=>by have:=yB s q hq;lia
  exact (wJ p).trans this.symm
 rw[Nb hl hm h,e1,e2];by_cases c:24<(Fl (gf av l m)).length
 ·rw[h9 c,h9 (by lia)]
 ·rw[hZ c,hZ (by lia)]
theorem F6 {a b c:Rw}(hb:b.length=n)(hc:∀i∈c,0<=i/\i<n):av (av a b) c=av a (av b c):=by
 unfold av;rw[aaq];refine aaB λi hi=>?_;have:=hc i hi;have hl:i.toNat<b.length:=by lia
 show (b.map _).getD i.toNat 0=a.getD (b.getD i.toNat 0).toNat 0;rw[aav,aav (l:=b),aar,aac hl];rfl
theorem rZ {a:Rw}(h:cw n a):av (au n) a=a:=by
 unfold av;have:a.map (λi=>(au n).getD i.toNat 0)=a.map id:=aaB λi hi=>by
  have:=jU h i hi;unfold au;rw[aav,aar,aej (by lia)];show ((i.toNat:Nat):Int)=i;lia
 rw[this,aeh]
def jW {a:Rw}(h:a.length=n):av a (au n)=a:=by
 unfold av au;rw[aaq];refine afc (by rw[aab,abd,h]) λi h1 h2=>?_;rw[afg,afL];show a.getD _ 0=_;rw[aaY,aav,aac h2];rfl
def Ek {a b:Rw}(ha:cw n a)(hb:cw n b):cw n (av a b):=by
 have:(av a b).Perm (av a _):=List.Perm.map _ hb;rw[jW (bV ha)] at this;exact this.trans ha
theorem Sf.sh (h:Sf n l):Sh n l:=⟨abi.mp (by have:=h.l1;lia),by have:=h.l2;lia,h.n1,h.n8,λa ha=>bV (h.o a ha),λa ha=>jU (h.o a ha)⟩
def Sf.mul {m:List Rw}(h:Sf n l)(k:Sf n m):l.length*m.length<1000:=aeA (ae2 h.l2 k.l2) (by decide)
def Sf.ne (h:Sf n l):l≠[]:=h.sh.ne
theorem Sf.all {m:List Rw}(h:Sf n l)(k:Sf n m):gf av l m≠[]/\(gf av l m).length<1000/\∀o∈gf av l m,cw n o:=by
 refine⟨Ej h.ne k.ne,by rw[kK];exact h.mul k,λo ho=>?_⟩;obtain⟨a,ha,ho⟩:=acI.mp ho;obtain⟨b,hb,rfl⟩:=aas.mp ho;exact Ek (h.o a ha) (k.o b hb)
theorem Sf.Fl {m:List Rw}(h:Sf n l)(k:Sf n m)(c:¬24<(Fl (gf av l m)).length):Sf n (Fl (gf av l m)):=by
 obtain⟨a,b,o⟩:=h.all k;exact⟨h.n1,h.n8,λx hx=>o x (R6 hx),abi.mpr (Pf a b),by lia⟩
theorem pV {α:Type}{f:α->U}{g:α->D}(h:∀x,o8 (f x)=some (g x)):∀l:List α,ja (l.map f)=some (l.map g)
 | []=>by rfl
 |x::l=>by rw[aag];unfold ja;rw[h x,pV h l];rfl
theorem uP {α:Type}{g:α->D}{c:Nat}(h:∀x,eB (g x)<=c):∀l:List α,iH (l.map g)<=c
 | []=>by exact acM _
 |x::l=>by
  rw[aag];unfold iH;have:=h x;have:=uP h l;lia
theorem gW {α:Type}[DecidableEq α]:∀{d e:List α},d.Nodup->(∀x∈d,x∈e)->e.length<=d.length->d.Perm e
 | [],e,_,_,h=>by
  cases e with
  |nil=>exact .refl _
  |cons a e=>exact absurd h (by simp)
 |x::d,e,n,s,h=>by
  rw[abB] at n;have hx:=s x aal;have l:=aga hx;rw[aat] at h;refine ((gW n.2 (λy hy=>?_) (by lia)).cons x).trans (List.perm_cons_erase hx).symm;exact (List.mem_erase_of_ne λe:y=x=>n.1 (e▸hy)).mpr (s y (aan _ hy))
def oG (r:Rw):o8 (ak r)=some (.tup (r.map .int)):=by
 unfold ak o8;rw[wg];rfl
theorem El (r:Rw):eB (.tup (r.map .int))<=1:=by
 have:=tw r;unfold eB;lia
theorem Ng (l:List Rw):qX (.lst (l.map ak)) (.lst (l.map ak))=.ok true:=by
 have h2:o8 (.lst (l.map ak))=some (.lst (l.map λr=>.tup (r.map .int))):=by
  unfold o8;rw[pV oG];rfl
 unfold qX;rw[h2];dsimp only;rw[h9 (by unfold eB;have:=uP El l;lia),sD]
theorem Kd {e:Dc}(nd:Nd d)(ne:Nd e):FH (j5 d) (pS d) (j5 e) (pS e)=true↔d.Perm e:=by
 have z:(j5 d).zip (pS d)=d.map λp=>(ak p.1,U.int p.2):=by
  unfold j5 pS;rw[List.zip_map']
 have Zq:∀p ,Jj (j5 e) (pS e) (ak p.1,U.int p.2)=true↔p∈e:=λp=>by
  unfold Jj;rw[uF];by_cases c:p.1∈e.map (·.1)
  ·rw[h9 c];rw[decide_eq_true_eq];constructor
   ·intro h;have h:=by injection h
    have:=fO c;rw[h] at this;exact this
   ·intro h;rw[eE ne h]
  ·rw[hZ c];constructor
   ·intro h;cases h
   ·intro h;exact absurd (aaI h) c
 unfold FH;rw[aau,z,aaJ,beq_iff_eq];have lk:∀d ,(j5 d).length=d.length:=λd=>by unfold j5;rw[aab]
 rw[lk,lk];constructor
 ·intro⟨h1,h2⟩;exact gW (oh nd) (λp hp=>(Zq p).mp (h2 _ (aaI hp))) (by lia)
 ·intro h;refine⟨h.length_eq,λx hx=>?_⟩;obtain⟨p,hp,rfl⟩:=aas.mp hx;exact (Zq p).mpr (h.mem_iff.mp hp)
theorem Nh {a b:List Rw}(ha:Sf n a)(hb:Sf n b):∃t,yi [SU a,SU b]=.ok (.bl t)/\(t=true↔(aW (aF a)).Perm (aW (aF b))):=by
 have la:=ha.l2;have lb:=hb.l2;have sa:=i0 ha.ne (by lia);have sb:=i0 hb.ne (by lia);have i1:∀d ,dz (pS d)=some _:=λd=>by
  have:pS d=(d.map (·.2)).map U.int:=by rw[aaq];rfl
  rw[this,gU]
 have e:D3 id (DU (aW (aF a))) (DU (aW (aF b)))=.ok (.bl (FH (j5 (aW (aF a))) (pS (aW (aF a))) (j5 (aW (aF b))) (pS (aW (aF b))))):=by
  generalize aW (aF a)=d,aW (aF b)=e,rW sa=hd,rW sb=he;show (if (mQ (j5 d)&&mQ (j5 e)&&(dz (pS d)).isSome&&(dz (pS e)).isSome)=true then R.ok _ else R.stk)=_;rw[jT hd,jT he,i1,i1];rfl
 refine⟨_,?_,Kd (jQ sa.nd) (jQ sb.nd)⟩;have c1:=fP (lh a) (by lia);have c2:=fP (lh b) (by lia);have l1:=kI sa;have l2:=kI sb;unfold yi Ce;simp only[Pzz,dG,c1,c2,l1,l2,e]
theorem Cs (n:Nat):(au n).Nodup:=by
 unfold au List.Nodup;rw[adV];exact List.Pairwise.imp (λ{a b} h e=>h (by lia)) (List.nodup_range)
noncomputable def bk (n:Nat)(o:List Int):List Int:=(au n).map λi=>((o.idxOf i:Nat):Int)
theorem Ke {v:Int}:∀{o:List Int} {i:Nat},v∈o->FN v i (o.map U.int)=some (i+o.idxOf v)
 |a::o,i,h=>by
  show (if a=v then some i else FN v (i+1) _)=_;rw[List.idxOf_cons];by_cases c:a=v
  ·rw[h9 c,beq_iff_eq.mpr c];rfl
  ·rw[hZ c,Ke ((aaw.mp h).resolve_left λz=>c z.symm),beq_eq_false_iff_ne.mpr c];show some _=some (i+(o.idxOf v+1));rw[adi,Nat.add_comm 1]
section
variable {o:List Int}
def kL (ho:cw n o):cw n (bk n o):=by
 have nd:=ho.symm.nodup (Cs n);have:(bk n o).Perm _:=ho.symm.map _;refine this.trans ?_;have e:(o.map λv=>((o.idxOf v:Nat):Int))=au n:=by
  unfold au;refine afc (by rw[aab,aab,abd];exact bV ho) λi h1 h2=>?_;rw[afg,afg,afL,nd.idxOf_getElem]
 rw[e]
def pW (ho:cw n o):av o (bk n o)=au n:=by
 unfold av bk;rw[aaq]
 conv=>rhs;rw[←aeh (au n)]
 apply aaB;intro i hi;have hm:=ho.mem_iff.mpr hi;have l:=List.idxOf_lt_length_of_mem hm;show o.getD _ 0=i;rw[aaY,aav,aac l,List.getElem_idxOf];rfl
theorem Ni (n8:n<=8)(ho:cw n o):uq [ak o]=.ok (ak (bk n o)):=by
 have sz:aah=16777216:=rfl;have l:iR [ak o]=.ok (.int (n:Nat)):=by unfold ak;rw[xN,aab,bV ho]
 have rg:∀ρ,Mn _ ρ=.ok _:=λρ=>by rw[g9 n (by lia),dJ]
 have e:=de (f:=xw [none,some 0] (bB 0) cR (Jq (ae 1) (af (ae 0) ao)) [some (ak o)]) (c:=U.int) (g:=λi=>U.int ((o.idxOf i:Nat):Int)) λi hi=>by
  have e4:∀ρ:Ev,Jq (ae 1) (af (ae 0) ao) [some (.int i),some (ak o)]=.ok _:=λ_=>by
   unfold Jq;simp only[Pzz,Nat.reduceSub];unfold B6 ak;dsimp only;rw[Ke (ho.mem_iff.mpr hi),adg];rfl
  simp only[Pzz,e4 []]
 have z:((au n).map λi=>U.int ((o.idxOf i:Nat):Int)).length<=aah:=by rw[aab,bC];lia
 have r:U.tup ((au n).map λi=>U.int ((o.idxOf i:Nat):Int))=ak (bk n o):=by unfold ak bk;rw[aaq];rfl
 unfold uq Cb;simp only[Pzz,dG,Nat.reduceAdd,Nat.reduceSub,l,rg,e,r]
end
section
variable {a b c r:Rw}{K:List Rw}
def R7 (hb:b.length=n)(hc:cw n c):av (av a b) c=av a (av b c):=F6 hb (jU hc)
def Kg (ha:cw n a):bk n (bk n a)=a:=by
 have hb:=kL ha;have:=R7 (a:=a) (bV hb) (kL hb);rw[pW ha,pW hb,jW (bV ha),rZ (kL hb)] at this;exact this
def yE (ha:cw n a):av (bk n a) a=au n:=by
 have:=pW (kL ha)
 rwa [Kg ha] at this
def uQ (ha:cw n a)(hb:cw n b)(hc:cw n c)(e:av a b=av a c):b=c:=by
 have h1:=R7 (a:=bk n a) (bV ha) hb;have h2:=R7 (a:=bk n a) (bV ha) hc;rw[yE ha,rZ hb] at h1;rw[yE ha,rZ hc] at h2;rw[h1,h2,e]
structure F7 (n:Nat)(K:List Rw):Prop where
 o:∀a∈K,cw n a
 nd:K.Nodup
 ne:K≠[]
 cl:∀a∈K,∀b∈K,av a b∈K
def Ct {f:Rw->Rw}(nd:l.Nodup)(h:∀x∈l,∀y∈l,f x=f y->x=y):(l.map f).Nodup:=by
 unfold List.Nodup;rw[adV];exact af3 (λ{a b} ha hb ne e=>ne (h a ha b hb e)) nd
theorem F7.left (g:F7 n K)(ha:a∈K):(K.map (av a)).Perm K:=gW (Ct g.nd λx hx y hy e=>uQ (g.o a ha) (g.o x hx) (g.o y hy) e) (λx hx=>by
 obtain⟨y,hy,rfl⟩:=aas.mp hx;exact g.cl a ha y hy) (by rw[aab];exact aao _)
theorem F7.id (g:F7 n K):au n∈K:=by
 obtain⟨a,ha⟩:=aeb _ g.ne;obtain⟨e,he,h⟩:=aas.mp ((g.left ha).mem_iff.mpr ha);have:=uQ (g.o a ha) (g.o e he) (.refl _) (by rw[h,jW (bV (g.o a ha))]);exact this▸he
theorem F7.inv (g:F7 n K)(ha:a∈K):bk n a∈K:=by
 obtain⟨e,he,h⟩:=aas.mp ((g.left ha).mem_iff.mpr g.id);have:=uQ (g.o a ha) (g.o e he) (kL (g.o a ha)) (by rw[h,pW (g.o a ha)]);exact this▸he
theorem F7.back (g:F7 n K):(K.map (bk n)).Perm K:=gW (Ct g.nd λx hx y hy e=>by rw[←Kg (g.o x hx),e,Kg (g.o y hy)]) (λx hx=>by
 obtain⟨y,hy,rfl⟩:=aas.mp hx;exact g.inv hy) (by rw[aab];exact aao _)
def Kh {m:List Rw}(p:l.Perm m)(f:Rw->Int):S l f=S m f:=oj (p.map f)
def Em (g:Rw->Rw)(l:List Rw)(f:Rw->Int):S (l.map g) f=S l λx=>f (g x):=by unfold S;rw[aaq];rfl
def F7.Sl (g:F7 n K)(ha:a∈K)(f:Rw->Int):(S K λb=>f (av a b))=S K f:=by rw[←Em,Kh (g.left ha)]
def F7.Sb (g:F7 n K)(f:Rw->Int):(S K λb=>f (bk n b))=S K f:=by rw[←Em,Kh g.back]
structure Gi (n:Nat)(ss K:List Rw)(c:Nat):Prop where
 sf:Sf n ss
 g:F7 n K
 c0:0<c
 s:∀f,S ss f=c*S K f
 m:∀x,x∈K↔x∈ss
def Nj (l:List Rw)(v:Int):S l (λ_=>v)=l.length*v:=by
 have:=J_ v l λ_=>1;rw[Ka] at this;rw[Int.mul_comm,this];exact oF λ_ _=>(Int.mul_one v).symm
def Gi.twice {c:Nat}(h:Gi n ss K c)(f:Rw->Int):S (gf av ss ss) f=ss.length*S ss f:=by
 rw[Pe];have:(S ss λa=>S ss λb=>f (av a b))=S ss λ_=>S ss f:=oF λa ha=>by
  rw[h.s,h.s f,h.g.Sl ((h.m a).mpr ha)]
 rw[this,Nj]
def Gi.there {c:Nat}(h:Gi n ss K c){e:Rw}(hr:r.length=n)(he:e.length=n):(S ss λo=>if av r o=e then 1 else 0)=S ss λo=>if av e o=r then 1 else 0:=by
 rw[h.s,h.s,←h.g.Sb];congr 1;refine oF λo ho=>?_;have oo:=h.g.o o ho;have lb:=bV (kL oo);have:av r (bk n o)=e↔av e o=r:=by
  constructor
  ·intro z;rw[←z,R7 lb oo,yE oo,jW hr]
  ·intro z;rw[←z,R7 (bV oo) (kL oo),pW oo,jW he]
 simp only[this]
end
def Ow (n:Nat)(a:Rw):Prop:=a.length=n/\∀i∈a,0<=i/\i<n
theorem AR {α:Type}{sg:U->Ev->R Ev}{s:Ev->SR}(f:α->U)(c:α->Bool)(I:Ev->Prop):∀{xs:List α},(∀x∈xs,∀ρ,I ρ->∃ρ1,sg (f x) ρ=.ok ρ1/\((c x=true/\∃ρ2,s ρ1=.nx ρ2/\I ρ2)\/(c x=false/\∃ρ2,s ρ1=.rt (.bl false) ρ2)))->∀{ρ:Ev},I ρ ->
  (xs.all c=true/\∃ρ',d6 sg s (xs.map f) ρ=.nx ρ'/\I ρ')\/(xs.all c=false/\∃ρ',d6 sg s (xs.map f) ρ=.rt (.bl false) ρ')
 | [],_,ρ,h=>.inl ⟨rfl,ρ,xI,h⟩
 |x::xs,st,ρ,h=>by
  obtain⟨ρ1,e1,q⟩:=st x aal ρ h;rw[aag,nB,e1,C9,abT];rcases q with⟨cu,ρ2,e2,h2⟩|⟨cu,ρ2,e2⟩
  ·rw[e2,cu];exact AR f c I (λx hx=>st x (aan _ hx)) h2
  ·rw[e2,cu];exact .inr ⟨rfl,ρ2,rfl⟩
noncomputable def Wj (mn:Bool)(u:U)(ρ:Ev):R (U×Ev):=match u with
 | .dct ks us=>if mQ ks=true then (match dz us with
  |some (n::ns)=>.ok (.int (Ag mn n ns),ρ)
  |_=>.stk) else .stk
 |_=>.stk
def yF {mn:Bool}{g:Ev->R (U×Ev)}:jJ mn g ρ=(g ρ).bind λx=>Wj mn x.1 x.2:=nr rfl
def En {mn:Bool}{p:Rw×Int}:Wj mn (DU (p::d)) ρ=.ok (.int (Ag mn p.2 (d.map (·.2))),ρ):=by
 have e:dz ((p::d).map λq=>U.int q.2)=some (p.2::d.map (·.2)):=by
  have:((p::d).map λq=>U.int q.2)=(p.2::d.map (·.2)).map U.int:=by rw[aag,aag,aaq];rfl
  rw[this,gU]
 refine (h9 (jT (by simp))).trans ?_;rw[e]
theorem Ki:∀(ns:List Int) (m:Int),m<=nP m ns/\∀a∈ns,a<=nP m ns
 | [],m=>⟨ae0 _,λa h=>by cases h⟩
 |n::ns,m=>by
  obtain⟨h1,h2⟩:=Ki ns _;have e:nP m (n::ns)=nP _ ns:=rfl;have:m<=(if m<n then n else m)/\n<=(if m<n then n else m):=by split<;>lia
  refine⟨Int.le_trans this.1 h1,λa ha=>?_⟩;rcases aaw.mp ha with rfl|z
  ·exact Int.le_trans this.2 h1
  ·exact h2 a z
theorem Nk {n0:Int}:pF n0 ns=nP n0 ns↔∀a∈ns,a=n0:=by
 obtain⟨m1,m2,m3⟩:=yf ns n0;obtain⟨x1,x2⟩:=Ki ns n0;constructor
 ·intro e a ha;have:=m2 a ha;have:=x2 a ha;lia
 ·intro h;have c:∀(ns:List Int) (n0:Int),(∀a∈ns,a=n0)->pF n0 ns=n0/\nP n0 ns=n0:=λns=>by
   induction ns with
   |nil=>intro n0 _;exact⟨rfl,rfl⟩
   |cons n ns ih=>
    intro n0 h;have e:=h n aal;subst e;have q:=ih n λa ha=>h a (aan _ ha);have i1:(if n<n then n else n)=n:=by split<;>rfl
    exact⟨by show pF _ ns=n;rw[i1];exact q.1,by show nP _ ns=n;rw[i1];exact q.2⟩
  rw[(c ns n0 h).1,(c ns n0 h).2]
theorem pX {α:Type}{f:U->R (Option U)}{c:α->U}{p:α->Bool}:∀{xs:List α},(∀x∈xs,f (c x)=.ok (if p x=true then some (c x) else none))->yO f (xs.map c)=.ok ((xs.filter p).map c)
 | [],_=>rfl
 |x::xs,h=>by
  rw[aag];unfold yO;rw[h x aal];rw[pX λy hy=>h y (aan _ hy)];rw[List.filter_cons];cases p x<;>rfl
noncomputable def tB:U->Bool
 | .bl b=>b
 |_=>true
def R8 (bs:List Bool):Bv [.lst (bs.map U.bl)]=.ok (.bl (bs.all id)):=by
 have e:=BJ (bs.map U.bl) tB;rw[aaq,aeq] at e;exact e
theorem Eo {k:Rw}:∀(ws:List (Rw×Int)) (d:Dc),k∈(aR d ws).map (·.1)↔k∈d.map (·.1)\/k∈ws.map (·.1)
 | [],d=>by show k∈d.map (·.1)↔_;simp
 |p::ws,d=>by
  show k∈(aR _ ws).map (·.1)↔_;rw[Eo ws,aag,aaw];unfold og;rw[kE];by_cases c:p.1∈d.map (·.1)
  ·rw[h9 c];constructor
   ·rintro (z|z)
    ·exact .inl z
    ·exact .inr (.inr z)
   ·rintro (z|z|z)
    ·exact .inl z
    ·exact .inl (by rw[z];exact c)
    ·exact .inr z
  ·rw[hZ c,aaQ,aaK];constructor
   ·rintro ((z|z)|z)
    ·exact .inl z
    ·exact .inr (.inl z)
    ·exact .inr (.inr z)
   ·rintro (z|z|z)
    ·exact .inl (.inl z)
    ·exact .inl (.inr z)
    ·exact .inr z
def jX {k:Rw}:k∈(aF l).map (·.1)↔k∈l:=by
 unfold aF;rw[Eo,aaq];have:l.map ((λp:Rw×Int=>p.1)∘λx=>(x,(1:Int)))=l:=List.map_id' l;simp
def XI {k:Rw}:BE id (ak k) (DU d)=.ok (.bl (decide (k∈d.map (·.1)))):=by
 show (if iS (j5 d) (ak k)=true then R.ok (U.bl (id (fq (j5 d) (pS d) (ak k)).isSome)) else .stk)=_;rw[h9 (oy d k),uF];by_cases c:k∈d.map (·.1)
 ·rw[h9 c,hJ c];rfl
 ·rw[hZ c,hV c];rfl
noncomputable def F8 (ss:List Rw):Bool:=ss.all λa=>ss.all λb=>decide (av a b∈ss)
def Kj {ks:List Rw}(h:∀k,k∈ks↔k∈ss):F8 ks=F8 ss:=by
 unfold F8;rw[abu,aaJ,aaJ];constructor
 ·intro a x hx;refine aaJ.mpr λy hy=>hJ ((h _).mp ?_);exact of_decide_eq_true (aaJ.mp (a x ((h x).mpr hx)) y ((h y).mpr hy))
 ·intro a x hx;refine aaJ.mpr λy hy=>hJ ((h _).mpr ?_);exact of_decide_eq_true (aaJ.mp (a x ((h x).mp hx)) y ((h y).mp hy))
def XJ:kA=aH (aY 1 (eR 1 cC (af (ae 0) ao))) (aH (oO (gB (bb (mj not) (jJ true (ae 1)) (jJ false (ae 1)))) (bT (gC (.bl false))) cQ) (aH (fm (UR (ae 1)) (bB 2) gJ) (bT (gC (.bl true))))):=rfl
theorem yG {ks:List Rw}{t:Bool}(h8:n<=8)(ck:cC [SU ss]=.ok (DU d))(nd:d≠[])(hk:d.map (·.1)=ks)(ko:∀k∈ks,Ow n k)(bv:∀(ρ:Ev),∃x y:Int,Wj true (DU d) ρ=.ok (.int x,ρ)/\Wj false (DU d) ρ=.ok (.int y,ρ)/\(x==y)=t):br [SU ss]=.ok (.bl (t&&F8 ks)):=by
 have wk:∀{ρ:Ev},XF (DU d) ρ=.ok (ks.map ak,ρ):=λ{ρ}=>by rw[M7 nd,←hk,aaq];rfl
 have F:=AR (sg:=bB 2) (s:=gJ) ak (λa=>ks.all _) (λρ=>∃o,ρ=[some (SU ss),some (DU d),o]) (λa ha ρ h00=>by
   obtain⟨o,hρ⟩:=h00;subst hρ;refine⟨[some (SU ss),some (DU d),some (ak a)],rfl,?_⟩;have e:yO (xw [none,some 1,some 2] (bB 0) cR (bb (BE id) (eR 2 jL (af (ae 2) (af (ae 0) ao))) (ae 1)) [some (SU ss),some (DU d),some (ak a)]) (ks.map ak)=.ok ((ks.map λb=>decide (av a b∈ks)).map U.bl):=by
    rw[aaq];exact de λb hb=>by
     have t:=yA (λi hi=>by rw[(ko a ha).1];exact (ko b hb).2 i hi) (by have:=(ko b hb).1;lia);simp only[Pzz,t,XI,hk];rfl
   have ea:=R8 (ks.map λb=>decide (av a b∈ks));rw[aeq] at ea;have ea:Bv _=.ok (.bl (ks.all λb=>decide _)):=ea;unfold gJ;cases c:(ks.all _) with
   |true=>
    rw[c] at ea;refine .inl ⟨rfl,_,?_,some (ak a),rfl⟩;simp only[Pzz,M5,wk,e,ea]
   |false=>
    rw[c] at ea;refine .inr ⟨rfl,[some (SU ss),some (DU d),some (ak a)],?_⟩;simp only[Pzz,M5,wk,e,ea]) ⟨none,rfl⟩
 have F:(F8 ks=true/\_)\/(F8 ks=false/\_):=F;obtain⟨x,y,b1,b2,eb⟩:=bv [some (SU ss),some (DU d),none];rw[br,XJ];cases t with
 |false=>simp only[Pzz,dG,ck,yF,b1,b2,eb,Bool.false_and]
 |true=>
  rcases F with⟨cl,ρ',e,_⟩|⟨cl,ρ',e⟩
  ·rw[cl];simp only[Pzz,dG,ck,yF,b1,b2,eb,M5,wk,e,Bool.true_and]
  ·rw[cl];simp only[Pzz,dG,ck,yF,b1,b2,eb,M5,wk,e,Bool.true_and]
def Kk {cD:List Int}{n:Int}(h:cD.any (·==n)=true):adn cD n=cD:=h9 h
def Kl {cD:List Int}{n:Int}(h:¬cD.any (·==n)=true):adn cD n=cD++[n]:=hZ h
theorem wQ:∀(ns cD:List Int) (x:Int),x∈ns.foldl adn cD↔x∈cD\/x∈ns
 | [],cD,x=>by simp
 |n::ns,cD,x=>by
  rw[abv,wQ ns,aaw];by_cases h:cD.any (·==n)=true
  ·rw[Kk h];rw[acV] at h;obtain⟨y,hy,e⟩:=h;have e:=by simpa using e
   subst e;constructor
   ·rintro (z|z)
    ·exact .inl z
    ·exact .inr (.inr z)
   ·rintro (z|z|z)
    ·exact .inl z
    ·subst z;exact .inl hy
    ·exact .inr z
  ·rw[Kl h,aaQ,aaK];constructor
   ·rintro ((z|z)|z)
    ·exact .inl z
    ·exact .inr (.inl z)
    ·exact .inr (.inr z)
   ·rintro (z|z|z)
    ·exact .inl (.inl z)
    ·exact .inl (.inr z)
    ·exact .inr z
theorem qL:∀(ns cD:List Int),cD.Nodup->(ns.foldl adn cD).Nodup
 | [],cD,h=>h
 |n::ns,cD,h=>by
  refine qL ns _ ?_;by_cases z:cD.any (·==n)=true
  ·rw[Kk z];exact h
  ·rw[Kl z,adS];refine⟨h,by simp,λa ha b hb e=>?_⟩;rw[aaK] at hb;subst e hb;exact z (acV.mpr ⟨a,ha,by simp⟩)
theorem Km (l:List Rw)(k:Rw):(S l λx=>if x=k then 1 else 0)=(l.count k:Nat):=by
 unfold S
 induction l with
 |nil=>rfl
 |cons x l ih=>
  rw[aag,aaV,ih,List.count_cons];by_cases c:x=k
  ·rw[h9 c,beq_iff_eq.mpr c];simp;lia
  ·rw[hZ c,beq_eq_false_iff_ne.mpr c];simp
def Kn (l:List Rw)(k:Rw):bu (aF l) k=(l.count k:Nat):=by
 rw[←Km,←uN,jh (bM l).1]
def S6 (ss:List Rw):Prop:=∀x∈ss,∀y∈ss,ss.count x=ss.count y
def Ph {o:Rw}(h:cw n o):Ow n o:=⟨bV h,jU h⟩
def Ep:∀p∈aF l,p.1∈l/\p.2=(l.count p.1:Nat):=λp hp=>⟨jX.mp (aaI hp),by rw[←Kn,eE (bM l).1 hp]⟩
theorem mI (h8:n<=8)(ne:ss≠[])(hl:ss.length<1000)(ho:∀s∈ss,cw n s):∃t:Bool,br [SU ss]=.ok (.bl t)/\(t=true↔S6 ss/\F8 ss=true):=by
 have sm:=i0 ne hl;have ck:=fP (lh ss) (by lia);have mk:∀k,k∈(aF ss).map (·.1)↔k∈ss:=λk=>jX;have cv:=Ep (l:=ss);generalize aF ss=d at sm ck mk cv;have ko:=λk hk=>Ph (ho k ((mk k).mp hk));obtain⟨p,d,rfl⟩:=List.exists_cons_of_ne_nil sm.ne;refine⟨_,yG (t:=decide (∀a∈d.map (λq:Rw×Int=>q.2),a=p.2)) h8 ck sm.ne rfl ko λρ=>⟨_,_,En,En,?_⟩,?_⟩
 ·rw[abu,beq_iff_eq,decide_eq_true_iff];exact Nk
 ·rw[aau,decide_eq_true_iff,Kj mk];refine and_congr_left λ_=>⟨λh=>?_,λh a ha=>?_⟩
  ·have all:∀x∈ss,(ss.count x:Int)=p.2:=λx hx=>by
    obtain⟨q,hq,rfl⟩:=aas.mp ((mk x).mpr hx);rw[←(cv q hq).2];rcases aaw.mp hq with rfl|hq
    ·rfl
    ·exact h _ (aaI hq)
   intro x hx y hy;have:=all x hx;have:=all y hy;lia
  ·obtain⟨q,hq,rfl⟩:=aas.mp ha;obtain⟨a1,a2⟩:=cv q (aan _ hq);obtain⟨b1,b2⟩:=cv p aal;rw[a2,b2,h _ a1 _ b1]
theorem yH (hs:Sf n ss)(he:S6 ss)(hc:F8 ss=true):∃K c,Gi n ss K c:=by
 obtain⟨x,hx⟩:=aeb _ hs.ne;have mk:∀k,k∈(aF ss).map (·.1)↔k∈ss:=λk=>jX;refine⟨(aF ss).map _,ss.count x,hs,⟨λa ha=>hs.o a ((mk a).mp ha),(bM ss).1,λz=>?_,λa ha b hb=>?_⟩,List.count_pos_iff.mpr hx,λf=>?_,mk⟩
 ·have:=(mk x).mpr hx;rw[z] at this;cases this
 ·rw[mk] at ha hb ⊢;exact of_decide_eq_true (aaJ.mp (aaJ.mp hc a ha) b hb)
 ·rw[←uN];unfold cO S;rw[aaq];have cv:=Ep (l:=ss);generalize aF ss=d at cv
  induction d with
  |nil=>simp
  |cons p d ih=>
   have a:=ih λq hq=>cv q (aan _ hq);obtain⟨b1,b2⟩:=cv p aal;rw[aag,aaV,a,aag,aaV,Int.mul_add,b2,he _ b1 x hx];rfl
def F9 (l:List Rw):ja (l.map ak)=some (l.map λr=>.tup (r.map .int)):=pV oG l
theorem Ko (ss:List Rw)(o:Rw):um (SU ss) (ak o)=.ok (.int (ss.count o:Nat)):=by
 unfold um SU;rw[oG];dsimp only;rw[F9];dsimp only;rw[h9]
 ·congr 3;rw[List.countP_map];refine List.countP_congr λx _=>?_;show iQ _ _=true↔_;rw[Af,decide_eq_true_iff,beq_iff_eq]
 ·rw[aaJ];intro d hd;obtain⟨r,_,rfl⟩:=aas.mp hd;show ((r.map D.int).all _)=true;rw[aeq,aaJ];exact λ_ _=>rfl
theorem F_ (ne:ss≠[])(hl:ss.length<64):∃k:Nat,gc [.lst (ss.map λo=>.int (ss.count o:Nat))]=.ok (.int k)/\(k=1↔S6 ss):=by
 have e:(ss.map λo=>U.int (ss.count o:Nat))=(ss.map λo=>(ss.count o:Int)).map U.int:=by rw[aaq];rfl
 refine⟨(j0 (ss.map λo=>(ss.count o:Int))).length,?_,?_⟩
 ·unfold gc;rw[e];dsimp only;rw[gU];dsimp only;rw[h9 (by rw[aab];exact hl)]
 ·have nd:(j0 (ss.map λo=>(ss.count o:Int))).Nodup:=qL _ [] acv;have mm:∀x,x∈j0 _↔x∈ss.map λo=>(ss.count o:Int):=λx=>by
   have:x∈j0 _↔x∈[]\/x∈ss.map λo=>(ss.count o:Int):=wQ _ [] x;rw[this];simp
  generalize j0 _=l at nd mm;constructor
  ·intro h x hx y hy;obtain⟨v,rfl⟩:=List.length_eq_one_iff.mp h;have a:=(mm _).mpr (aaI hx);have b:=(mm _).mpr (aaI hy);rw[aaK] at a b;lia
  ·intro h;obtain⟨x,hx⟩:=aeb _ ne;have:=gW (d:=[(ss.count x:Int)]) (by simp) (λv hv=>by
    rw[aaK.mp hv];exact (mm _).mpr (aaI hx))
   match l,nd,mm,this with
   | [],_,mm,_=>exact absurd ((mm _).mpr (aaI hx)) (by simp)
   | [_],_,_,_=>rfl
   |a::b::l,nd,mm,_=>
    obtain⟨y,hy,ey⟩:=aas.mp ((mm a).mp aal);obtain⟨z,hz,ez⟩:=aas.mp ((mm b).mp (aan _ aal));have hyz:=h y hy z hz;have:a=b:=by lia
    subst this;exact absurd aal (abB.mp nd).1
theorem AS {α:Type}{f:α->U}{g:α->D}(h:∀x,o8 (f x)=some (g x)):∀xs:List α,ja (xs.map f)=some (xs.map g)
 | []=>by rfl
 |x::xs=>by rw[aag];unfold ja;rw[h,AS h xs];rfl
def Nl (a b:List Int):iQ (.tup (a.map .int)) (.tup (b.map .int))=decide (a=b):=by exact pj a b
theorem uR (c:List Int)(CF:List (List Int)):K_ not (ak c) (.tup (CF.map ak))=.ok (.bl (!decide (c∈CF))):=by
 unfold K_ Jh;rw[oG];show (match some (D.tup _),ja _ with|some dx,some ds=>_|_,_=>_)=_;rw[AS oG];dsimp only;rw[h9 (by rw[aeq];exact aaJ.mpr λr _=>hJ (by have:=El r;show eB (.tup _)<=30;lia))];congr 3;rw[List.any_map];have:((λd=>iQ d (.tup _))∘λr:List Int=>D.tup _)=λr=>decide (r=c):=funext λr=>Nl r c;rw[this];by_cases h:c∈CF
 ·rw[hJ h];exact acV.mpr ⟨c,h,hJ rfl⟩
 ·rw[hV h];exact List.any_eq_false.mpr λr hr e=>h (by rw[←of_decide_eq_true e];exact hr)
theorem Kp {vf:List Int->U}(k:List Int):∀ks:List (List Int),fq (ks.map ak) (ks.map vf) (ak k)=if k∈ks then some (vf k) else none
 | []=>rfl
 |x::ks=>by
  rw[aag,aag];unfold fq;by_cases c:x=k
  ·subst c;rw[h9 rfl,h9 aal]
  ·rw[hZ (λz=>c (eF.mp z)),Kp k ks];by_cases d:k∈ks
   ·rw[h9 d,h9 (aan _ d)]
   ·rw[hZ d,hZ (λz=>(aaw.mp z).elim (λe=>c e.symm) d)]
theorem oH {k:List Int}{ks:List (List Int)}:ak k∈ks.map ak↔k∈ks:=by
 constructor
 ·intro h;obtain⟨x,hx,e⟩:=aas.mp h;rw[←eF.mp e];exact hx
 ·exact λh=>aaI h
def Nm (ks:List (List Int))(k:List Int):g7 (ks.map ak) (ak k)=(pU ks k).map ak:=by
 unfold g7 pU;by_cases c:k∈ks
 ·rw[h9 (oH.mpr c),h9 c]
 ·rw[hZ (λz=>c (oH.mp z)),hZ c,aaG];rfl
theorem Pj {vf:List Int->U}{w:U}(k:List Int):∀ks:List (List Int),ab7 (λk' u=>if k'=ak k then w else u) (ks.map ak) (ks.map vf)=ks.map λk'=>if k'=k then w else vf k'
 | []=>rfl
 |x::ks=>by
  rw[aag,aag,acQ,Pj k ks,aag];by_cases c:x=k
  ·rw[h9 (eF.mpr c),h9 c]
  ·rw[hZ (λz=>c (eF.mp z)),hZ c]
def Nn {vf:List Int->U}{w:U}(ks:List (List Int))(k:List Int):f9 (ks.map ak) (ks.map vf) (ak k) w=(pU ks k).map λk'=>if k'=k then w else vf k':=by
 unfold f9 pU;by_cases c:k∈ks
 ·rw[h9 (oH.mpr c),h9 c,Pj]
 ·rw[hZ (λz=>c (oH.mp z)),hZ c,aaG];congr 1
  ·refine aaB λx hx=>?_;rw[hZ (λ(e:x=k)=>c (e▸hx))]
  ·show [w]=[if k=k then w else _];rw[h9 rfl]
theorem XM (ks:List (List Int)):(ks.map ak).all Hy=true:=aaJ.mpr λu hu=>by obtain⟨k,_,rfl⟩:=aas.mp hu;rfl
def Vf (ks:List (List Int))(k:List Int):iS (ks.map ak) (ak k)=true:=by unfold iS;rw[ow,XM];simp
theorem Vg {x:Rw}:x∈l↔(S l λy=>if y=x then 1 else 0)≠0:=by
 rw[Km,←List.count_pos_iff];lia
def Vh (h:l≠[])(hl:l.length<1000){x:Rw}(hx:x∈l):x∈Fl l:=by
 rw[Vg] at hx ⊢;rw[←R5 h hl] at hx;intro z;rw[z] at hx;exact hx rfl
def uS (d:Dc):(aW d).map (·.1)=d.map (·.1):=by unfold aW;rw[aaq];rfl
theorem Np (h:l≠[])(hl:l.length<1000):(aW (aF (Fl l))).Perm (aW (aF l)):=by
 have fn:=Pf h hl;have fl:=Pg h hl;refine uM (bM _).1 (bM _).1 (i0 fn (by lia)) (bM _).2.1 (t:=1) (Vd h hl) (by decide) λf=>?_;rw[uN,uN,R5 h hl];show _=(1:Int)*_;rw[Int.one_mul]
theorem Kq {K:List Rw}{c:Nat}(h:Gi n ss K c):Fl (gf av ss ss)=Fl ss:=by
 obtain⟨a1,a2,_⟩:=h.sf.all h.sf;have l1:=h.sf.l1;refine Ve a1 a2 (s:=1) (t:=ss.length) (by decide) (by lia) λf=>?_;show (1:Int)*_=_;rw[Int.one_mul,h.twice]
theorem Er {a:U}{f:List U->R U}{o:Option U}{v:U}(h:f [a,a]=.ok v\/(∃c u,f [a,a]=.exc c u)/\v=.non):zI 1 2 f (af (ae 0) (af (ae 0) ao)) [some a,o]=.nx [some a,some v]:=by
 show (match sP 2 f [a,a] with
  | .ok z=>SR.nx [some a,some z]
  | .exc _ _=>.nx [some a,some .non]
  | .stk=>.stk)=_
 rw[show sP 2 f [a,a]=f [a,a] from h9 rfl];rcases h with h|⟨⟨c,u,h⟩,rfl⟩<;>rw[h]
theorem Ga (hs:Sf n ss):∃w:Bool,dY [SU ss]=.ok (.bl w)/\(S6 ss->(w=true↔F8 ss=true)):=by
 obtain⟨a1,a2,_⟩:=hs.all hs;have bf:=Nf hs.sh hs.sh (hs.mul hs);by_cases c:24<(Fl (gf av ss ss)).length
 ·rw[h9 c] at bf;have tr:=Er (o:=some .non) (.inr ⟨⟨_,_,bf⟩,rfl⟩);have n1:sZ .non=true:=rfl;refine⟨false,?_,λhe=>⟨nofun,λhc=>?_⟩⟩
  ·unfold dY gL;simp only[Pzz,dG,tr,n1]
  ·obtain⟨K,k,h⟩:=yH hs he hc;rw[Kq h] at c;have:=Pg hs.ne (by have:=hs.l2;lia);have:=hs.l2;lia
 ·rw[hZ c] at bf;have tr:=Er (o:=some .non) (.inl bf);have n1:sZ (SU (Fl (gf av ss ss)))=false:=rfl;have sF:=hs.Fl hs c;obtain⟨t,e,ht⟩:=Nh sF hs;refine⟨t,?_,λhe=>?_⟩
  ·unfold dY gL;simp only[Pzz,dG,tr,n1,e]
  ·rw[ht];constructor
   ·intro p;have mk:=λx=>by
     have:=(p.map (·.1)).mem_iff (a:=x);rw[uS,uS,jX,jX] at this;exact this
    unfold F8;rw[aaJ];intro a ha;rw[aaJ];intro b hb;refine hJ ((mk _).mp (Vh a1 a2 ?_));exact acI.mpr ⟨a,ha,aaI hb⟩
   ·intro hc;obtain⟨K,k,h⟩:=yH hs he hc;rw[Kq h];exact Np hs.ne (by have:=hs.l2;lia)
def Nq (r:Rw)(ss:List Rw):gf av [r] ss=ss.map (av r):=by
 unfold gf;rw[abL,List.flatMap_nil,aa2]
def AU {r:Rw}(hr:r.length=n)(hs:Sf n ss):eW [.lst [.tup [ak r,.tup [.int 1,.int 1]]],SU ss]=.ok (iz (dQ (ss.map (av r)))):=by
 have e:U.lst [.tup [ak r,.tup [.int 1,.int 1]]]=iz (dQ [r]):=by rw[F5];rfl
 rw[e,Cr (by simp) (λx hx=>by rw[aaK.mp hx];exact hr) (by simp) hs,Nq]
theorem Pl {vf:Rw->U}:∀{ls ks:List Rw},FI (ks.map ak) (ks.map vf) (ls.map λk=>.tup [ak k,vf k])=some ((ls.foldl pU ks).map ak,(ls.foldl pU ks).map vf)
 | [],ks=>by rfl
 |k::ls,ks=>by
  rw[aag];unfold FI;rw[h9 (ow k),Nm,Nn];have:(λk'=>if k'=k then vf k else vf k')=vf:=funext λk'=>by
   by_cases c:k'=k
   ·rw[h9 c,c]
   ·rw[hZ c]
  rw[this,Pl];rfl
theorem Kr {vf:Rw->U}{ls:List Rw}{r:Rw}(hl:ls.length<=1000)(hr:r∈ls):∃d,uj [.lst (ls.map λk=>.tup [ak k,vf k])]=.ok d/\U2 d (ak r)=.ok (vf r):=by
 have ne:ls≠[]:=λz=>by rw[z] at hr;cases hr
 have df:=Pl (vf:=vf) (ls:=ls) (ks:=[]);refine⟨.dct ((ls.foldl pU []).map ak) ((ls.foldl pU []).map vf),?_,?_⟩
 ·unfold uj;dsimp only;rw[h9 ⟨by
   cases ls with
   |nil=>exact absurd rfl ne
   |cons=>rfl,by rw[aab];lia⟩]
  rw[acA,acA] at df;rw[df]
 ·unfold U2;dsimp only;rw[h9 (Vf _ r),Kp,h9 ((lu ls [] r).mpr (.inr hr))];rfl
def Pm {k:Rw}:bu (aF l) k=S l λx=>if x=k then 1 else 0:=by rw[Kn,Km]
theorem Es {K:List Rw}{c:Nat}(h:Gi n ss K c){r:Rw}(hr:r.length=n):bH [SU ss,ak r]=.ok (.bl true):=by
 have n8:=h.sf.n8;have l2:=h.sf.l2;have ol:=λo ho=>bV (h.sf.o o ho);have cl:∀(k o:Rw),o∈ss->(av k o).length=n:=λk o ho=>by unfold av;rw[aab,ol o ho]
 have so:=AU hr h.sf;have cq:iz (dQ (ss.map (av r)))=.lst ((bG ((aF (ss.map (av r))).map (·.1))).map λk=>.tup [ak k,yC (lq (bu (aF (ss.map (av r))) k) (ss.map (av r)).length)]):=by
  unfold iz dQ cn;rw[aaq];rfl
 rw[cq] at so;obtain⟨ρ',e1,o2,o3,rfl⟩:=bF (us:=(bG ((aF (ss.map (av r))).map (·.1))).map λk=>U.tup [ak k,yC (lq (bu (aF (ss.map (av r))) k) (ss.map (av r)).length)]) (sg:=du 2 (aM (bB 2) (aM (bB 3) dD))) (s:=fw) (λ_ ρ=>∃o2 o3,ρ=[some (SU ss),some (ak r),o2,o3])
  (λi u ρ hu h00=>by
   obtain⟨o2,o3,hρ⟩:=h00;subst hρ;obtain⟨k,hk,rfl⟩:=aas.mp (aaZ hu);have hk:=jX.mp ((ba _).mem_iff.mp hk);obtain⟨o,ho,rfl⟩:=aas.mp hk;have oo:=h.sf.o o ho;have lk:=cl r o ho;have s2:=AU lk h.sf;have cq2:iz (dQ (ss.map (av (av r o))))=.lst ((bG ((aF (ss.map (av (av r o)))).map (·.1))).map λk=>.tup [ak k,yC (lq (bu (aF (ss.map (av (av r o)))) k) (ss.map (av (av r o))).length)]):=by
    unfold iz dQ cn;rw[aaq];rfl
   rw[cq2] at s2;obtain⟨d,d1,d2⟩:=Kr (vf:=λk=>yC (lq (bu _ k) (ss.map _).length)) (ls:=bG ((aF (ss.map (av (av r o)))).map (·.1))) (by
    rw[(ba _).length_eq,aab];have:=jS (bM (ss.map (av (av r o)))).2.1;rw[om,aab] at this;lia) ((ba _).mem_iff.mpr (jX.mpr (aas.mpr ⟨bk n o,(h.m _).mp (h.g.inv ((h.m o).mpr ho)),by rw[R7 (bV oo) (kL oo),pW oo,jW hr]⟩)))
   have eq:bu (aF (ss.map (av (av r o)))) r=bu (aF (ss.map (av r))) (av r o):=by
    rw[Pm,Pm,Em,Em];exact (h.there hr lk).symm
   have ln:(ss.map (av (av r o))).length=(ss.map (av r)).length:=by rw[aab,aab]
   rw[eq,ln] at d2;have ee:∀x ,qX (yC x) (yC x)=.ok true:=λx=>by
    have:=IQ [x.1,x.2] [x.1,x.2];rw[hJ rfl] at this;exact this
   have VQ:(1:Nat)<=aah:=by decide
   have VR:(2:Nat)<=aah:=by decide
   refine⟨_,_,La,.inl ?_,some (ak (av r o)),some (yC (lq (bu (aF (ss.map (av r))) (av r o)) (ss.map (av r)).length)),rfl⟩;unfold fw;simp only[Pzz,VQ,VR,s2,d1,d2,ee])
  (ρ:=[some (SU ss),some (ak r),none,none]) ⟨_,_,rfl⟩
 have fl:=pX (f:=xw [none,some 0] (bB 0) (gB (bb (K_ not) (eR 1 uq (af (ae 0) ao)) (ae 1))) (ae 0) [some (SU ss),some (ak r),o2,o3]) (c:=ak) (p:=λo=> !decide _) λo ho=>by
  have b:=Ni n8 (h.sf.o o ho);have ni:K_ not (ak (bk n o)) (SU ss)=.ok _:=uR _ _;simp only[Pzz,b,ni];cases decide (bk n o∈ss)<;>rfl
 have nil:ss.filter (λo=> !decide _)=[]:=List.filter_eq_nil_iff.mpr λo ho=>by
  rw[hJ ((h.m _).mp (h.g.inv ((h.m o).mpr ho)))];exact aaz
 rw[nil] at fl;have so2:∀ρ,vq (SU ss) ρ=.ok _:=λρ=>rfl;have en:qX (.lst []) (.lst [])=.ok true:=by kernel_rfl
 have VQ:(1:Nat)<=aah:=by decide
 have VR:(2:Nat)<=aah:=by decide
 have l0':(0:Nat)<=aah:=by decide
 unfold bH fK;simp only[Pzz,dG,VQ,VR,so,e1,so2,fl,en,id]
theorem Ks {α:Type}[DecidableEq α]:∀{l B:List α},l.Nodup->(∀x∈l,x∈B)->l.length<=B.length
 | [],_,_,_=>acM _
 |a::l,B,nd,h=>by
  have n1:=abB.mp nd;have ha:=h a aal;have:=Ks (B:=B.erase a) n1.2 λx hx=>(List.mem_erase_of_ne (λe=>n1.1 (by rw[←e];exact hx))).mpr (h x (aan _ hx));rw[aga ha] at this;have:=List.length_pos_of_mem ha;rw[aat];lia
noncomputable def DB (ks:List Rw):U:=.dct (ks.map ak) (ks.map λ_=>.bl true)
def Wl (ks:List Rw):ks.map ak=j5 (ks.map λk=>(k,0)):=by unfold j5;rw[aaq];rfl
def XN {ks:List Rw}{k:Rw}:ak k∈ks.map ak↔k∈ks:=by
 rw[Wl,uE,aaq];show k∈ks.map (λk=>k)↔_;rw[List.map_id']
def Vi (ks:List Rw)(k:Rw):iS (ks.map ak) (ak k)=true:=by rw[Wl];exact oy _ k
def XO {ks:List Rw}(h:ks≠[]):mQ (ks.map ak)=true:=by rw[Wl];exact jT λz=>h (adm.mp z)
theorem Pn (k:Rw):∀ks:List Rw,(fq (ks.map ak) (ks.map λ_=>U.bl true) (ak k)).isSome=decide (k∈ks)
 | []=>rfl
 |a::ks=>by
  rw[aag,aag];unfold fq;by_cases c:ak a=ak k
  ·rw[h9 c,hJ];rfl;rw[eF.mp c];exact aal
  ·rw[hZ c,Pn k ks];refine decide_eq_decide.mpr ⟨λz=>aan _ z,λz=>(aaw.mp z).resolve_left λe=>c (by rw[e])⟩
def R9 {ks:List Rw}{k:Rw}:BE not (ak k) (DB ks)=.ok (.bl (!decide (k∈ks))):=by
 show (if iS _ (ak k)=true then R.ok _ else .stk)=_;rw[h9 (Vi ks k),Pn]
def R_ {ks:List Rw}(h:ks≠[]):D8 [DB ks]=.ok (.int (ks.length:Nat)):=by
 show (if mQ _=true then R.ok _ else .stk)=_;rw[h9 (XO h),aab]
theorem XQ {ks:List Rw}{k:Rw}(hl:ks.length<1000000)(h:k∉ks):S5 i (.bl true) (ak k) ρ (some (some (DB ks)))=.nx (ρ.set i (some (DB (ks++[k])))):=by
 have sz:aah=16777216:=rfl;have nm:=λz=>h (XN.mp z);have:S5 i (.bl true) (ak k) ρ (some (some (DB ks)))=.nx _:=h9 ⟨Vi ks k,by rw[aab,sz];lia⟩;rw[this];unfold g7 f9 DB;rw[hZ nm,hZ nm,aaG,aaG];rfl
theorem Vj {ks:List Rw}(h:ks≠[])(ln:ks.length<100000)(hr:∀k∈ks,k≠[]):j3 [DB ks]=.ok (.lst ((bG ks).map ak)):=by
 have e:=pT (d:=ks.map λk=>(k,0)) (λz=>h (adm.mp z)) (by rw[aab];exact ln) λp hp=>by
  obtain⟨k,hk,rfl⟩:=aas.mp hp;exact hr k hk
 rw[aaq] at e;have e2:ks.map ((λp:Rw×Int=>p.1)∘λk=>(k,(0:Int)))=ks:=List.map_id' ks;rw[e2] at e;rw[←e];show j3 _=j3 [.dct (j5 _) _];rw[←Wl];rfl
noncomputable def XR (u:U)(ρ:Ev):R (U×Ev):=match u with
 | .tup ks=>if Bz (.tup ks)=true then .ok (.dct [.tup ks] [.bl true],ρ) else .stk
 |_=>.stk
def Vk {g:Ev->R (U×Ev)}:Jy g ρ=(g ρ).bind λx=>XR x.1 x.2:=nr rfl
def Nr {k:Rw}:XR (ak k) ρ=.ok (DB [k],ρ):=h9 (ow k)
noncomputable abbrev MF:=List Rw×List Rw
noncomputable def ins (x:MF)(k:Rw):MF:=if k∈x.1 then x else (x.1++[k],x.2++[k])
noncomputable def lvl (op:Rw->Rw->Rw)(S F:List Rw)(x:MF):MF:=F.foldl (λy r=>S.foldl (λz s=>ins z (op r s)) y) x
theorem Nt (x:MF)(k:Rw):x.1.length<=(ins x k).1.length:=by
 unfold ins;split
 ·exact aao _
 ·rw[aaj];lia
theorem r6 {op:Rw->Rw->Rw}{r:Rw}:∀(S:List Rw) (x:MF),x.1.length<=(S.foldl (λz s=>ins z (op r s)) x).1.length
 | [],_=>aao _
 |s::S,x=>aaR (Nt x _) (r6 S _)
theorem Et {op:Rw->Rw->Rw}{S:List Rw}:∀(F:List Rw) (x:MF),x.1.length<=(lvl op S F x).1.length
 | [],_=>aao _
 |r::F,x=>aaR (r6 S x) (Et F _)
structure Gd (x0 x:MF)(P:Rw->Prop):Prop where
 nd:x.1.Nodup
 mem:∀k,k∈x.1↔k∈x0.1\/P k
 new:∃F,x.1=x0.1++F/\x.2=x0.2++F
def Gd.refl {x:MF}(h:x.1.Nodup):Gd x x (λ_=>False):=⟨h,λk=>⟨λz=>.inl z,λz=>z.elim id acB⟩,[],by simp,by simp⟩
theorem Gd.ins {x0 x:MF}{P:Rw->Prop}(g:Gd x0 x P)(k:Rw):Gd x0 (ins x k) (λy=>P y\/y=k):=by
 unfold Hc.ins;by_cases c:k∈x.1
 ·rw[h9 c];refine⟨g.nd,λy=>?_,g.new⟩;rw[g.mem];constructor
  ·rintro (z|z)
   ·exact .inl z
   ·exact .inr (.inl z)
  ·rintro (z|z|z)
   ·exact .inl z
   ·exact .inr z
   ·rw[z];exact (g.mem k).mp c
 ·rw[hZ c];obtain⟨F,e1,e2⟩:=g.new;refine⟨adS.mpr ⟨g.nd,by simp,λa ha b hb e=>?_⟩,λy=>?_,F++[k],by rw[←aaP,←e1],by rw[←aaP,←e2]⟩
  ·rw[aaK.mp hb] at e;exact c (by rw[←e];exact ha)
  ·rw[aaQ,g.mem,aaK];constructor
   ·rintro ((z|z)|z)
    ·exact .inl z
    ·exact .inr (.inl z)
    ·exact .inr (.inr z)
   ·rintro (z|z|z)
    ·exact .inl (.inl z)
    ·exact .inl (.inr z)
    ·exact .inr z
def Gd.imp {x0 x:MF}{P Q:Rw->Prop}(g:Gd x0 x P)(h:∀k,P k↔Q k):Gd x0 x Q:=⟨g.nd,λk=>by rw[g.mem,h],g.new⟩
theorem Gd.row {op:Rw->Rw->Rw}{r:Rw}{x0:MF}:∀{S:List Rw} {x:MF} {P:Rw->Prop},Gd x0 x P->Gd x0 (S.foldl (λz s=>Hc.ins z (op r s)) x) (λy=>P y\/∃s∈S,y=op r s)
 | [],x,P,g=>g.imp λk=>⟨.inl,λz=>z.elim id fun⟨s,h,_⟩=>by cases h⟩
 |s::S,x,P,g=>(Gd.row (g.ins (op r s))).imp λk=>by
  constructor
  ·rintro ((z|z)|⟨t,ht,z⟩)
   ·exact .inl z
   ·exact .inr ⟨s,aal,z⟩
   ·exact .inr ⟨t,aan _ ht,z⟩
  ·rintro (z|⟨t,ht,z⟩)
   ·exact .inl (.inl z)
   ·rcases aaw.mp ht with e|e
    ·exact .inl (.inr (by rw[z,e]))
    ·exact .inr ⟨t,e,z⟩
theorem Gd.lvl {op:Rw->Rw->Rw}{S:List Rw}{x0:MF}:∀{F:List Rw} {x:MF} {P:Rw->Prop},Gd x0 x P->Gd x0 (Hc.lvl op S F x) (λy=>P y\/∃r∈F,∃s∈S,y=op r s)
 | [],x,P,g=>g.imp λk=>⟨.inl,λz=>z.elim id fun⟨r,h,_⟩=>by cases h⟩
 |r::F,x,P,g=>(Gd.lvl (Gd.row g)).imp λk=>by
  constructor
  ·rintro ((z|⟨s,hs,z⟩)|⟨t,ht,z⟩)
   ·exact .inl z
   ·exact .inr ⟨r,aal,s,hs,z⟩
   ·exact .inr ⟨t,aan _ ht,z⟩
  ·rintro (z|⟨t,ht,s,hs,z⟩)
   ·exact .inl (.inl z)
   ·rcases aaw.mp ht with e|e
    ·exact .inl (.inr ⟨s,hs,by rw[z,e]⟩)
    ·exact .inr ⟨t,e,s,hs,z⟩
theorem Sa {a b:Rw}(ha:Ow n a)(hb:Ow n b):Ow n (av a b):=by
 refine⟨by unfold av;rw[aab];exact hb.1,λi hi=>?_⟩;obtain⟨j,hj,rfl⟩:=aas.mp hi;have:=hb.2 j hj;have l:=ha.1;have hl:j.toNat<a.length:=by lia
 rw[aav,aac hl];exact ha.2 _ (aaH hl)
def Vl (n:Nat):Ow n (au n):=⟨bC n,λi hi=>eT.mp hi⟩
def Wo (op:Rw->Rw->Rw)(e:Rw)(S:List Rw):Nat->Rw->Prop
 |0,x=>x=e
 |k+1,x=>Wo op e S k x\/∃w,Wo op e S k w/\∃s∈S,x=op w s
section
variable {S:List Rw}
theorem Kt {op:Rw->Rw->Rw}(ho:∀a b,Ow n a->Ow n b->Ow n (op a b))(hS:∀s∈S,Ow n s):∀{k:Nat} {x:Rw},Wo op (au n) S k x->Ow n x
 |0,x,h=>by
  have:=h;rw[this];exact Vl n
 |k+1,x,h=>by
  rcases h with h|⟨w,hw,s,hs,rfl⟩
  ·exact Kt ho hS h
  ·exact ho _ _ (Kt ho hS hw) (hS s hs)
end
structure Lv (op:Rw->Rw->Rw)(e:Rw)(S:List Rw)(k:Nat)(M F:List Rw):Prop where
 nd:M.Nodup
 mem:∀x,x∈M↔Wo op e S k x
 sub:∀x∈F,x∈M
 ext:∀x∈M,x∈F\/∀s∈S,op x s∈M
 few:F.length<=M.length
def Lv.zero {op:Rw->Rw->Rw}{e:Rw}{S:List Rw}:Lv op e S 0 [e] [e]:=⟨by simp,λx=>aaK,λx h=>h,λx h=>.inl h,aao _⟩
theorem Lv.ne {op:Rw->Rw->Rw}{e:Rw}{S:List Rw}{M:List Rw}(h:Lv op e S k M F):M≠[]:=by
 have:∀k,Wo op e S k e:=λk=>by
  induction k with
  |zero=>exact rfl
  |succ k ih=>exact .inl ih
 exact List.ne_nil_of_mem ((h.mem e).mpr (this k))
theorem Lv.step {op:Rw->Rw->Rw}{e:Rw}{S:List Rw}{M:List Rw}(h:Lv op e S k M F):Lv op e S (k+1) (lvl op S F (M,[])).1 (lvl op S F (M,[])).2/\(lvl op S F (M,[])).1.length=M.length+(lvl op S F (M,[])).2.length:=by
 have g:=Gd.lvl (op:=op) (S:=S) (F:=F) (Gd.refl (x:=(M,[])) h.nd);generalize lvl op S F (M,[])=x at g ⊢;obtain⟨N,e1,e2⟩:=g.new;have e2:x.2=N:=e2;have mem:∀y,y∈x.1↔y∈M\/∃r∈F,∃s∈S,y=op r s:=λy=>by
  rw[g.mem];constructor
  ·rintro (z|z|z)
   ·exact .inl z
   ·exact z.elim
   ·exact .inr z
  ·rintro (z|z)
   ·exact .inl z
   ·exact .inr (.inr z)
 refine⟨⟨g.nd,λy=>?_,λy hy=>by rw[e1];rw[e2] at hy;exact aaU _ hy,λy hy=>?_,by rw[e1,e2,aaj];lia⟩,by rw[e1,e2,aaj]⟩
 ·rw[mem];constructor
  ·rintro (z|⟨r,hr,s,hs,z⟩)
   ·exact .inl ((h.mem y).mp z)
   ·exact .inr ⟨r,(h.mem r).mp (h.sub r hr),s,hs,z⟩
  ·rintro (z|⟨w,hw,s,hs,z⟩)
   ·exact .inl ((h.mem y).mpr z)
   ·have hw:=(h.mem w).mpr hw;rcases h.ext w hw with q|q
    ·exact .inr ⟨w,q,s,hs,z⟩
    ·exact .inl (by rw[z];exact q s hs)
 ·rw[e1] at hy;rcases aaQ.mp hy with z|z
  ·refine .inr λs hs=>(mem _).mpr ?_;rcases h.ext y z with q|q
   ·exact .inr ⟨y,q,s,hs,rfl⟩
   ·exact .inl (q s hs)
  ·exact .inl (by rw[e2];exact z)
def uT {c:String}{s:Ev->SR}:(SR.exc c u).turn s=.exc c u:=nr rfl
def Eu {c:String}{s:Ev->SR}:(SR.exc c u).seq s=.exc c u:=nr rfl
def Ku {m:Md}{c:String}:Fu m (.exc c u)=.exc c u:=nr rfl
def Po:rM (.lst us) [u]=if us.length<aah then .ok (.non,.lst (us++[u])) else .stk:=nr rfl
noncomputable abbrev eP (a0 a1 a2 a4 a6 a7 a8:Option U)(x:MF):Ev:=[a0,a1,a2,some (DB x.1),a4,some (.lst (x.2.map ak)),a6,a7,a8]
theorem XS {n:Nat}{r:Rw}(hr:Ow n r)(h8:n<=8){a0 a1 a2 a4:Option U}:∀(S:List Rw) (x:MF) (a7 a8:Option U),(∀s∈S,Ow n s)->x.1≠[]->x.1.length<=120->x.2.length<=x.1.length->
  ∃b7 b8,d6 (bB 7) ik (S.map ak) (eP a0 a1 a2 a4 (some (ak r)) a7 a8 x)=if (S.foldl (λz s=>ins z (av r s)) x).1.length<=120 then .nx (eP a0 a1 a2 a4 (some (ak r)) b7 b8 (S.foldl (λz s=>ins z (av r s)) x)) else .exc "TooMany" .non
 | [],x,a7,a8,_,_,h,_=>⟨a7,a8,by rw[List.foldl_nil,h9 h];rfl⟩
 |s::S,x,a7,a8,hS,ne,h,hg=>by
  have szl:aah=16777216:=rfl;have hs:=hS s aal;have t:=yA (λi hi=>by rw[hr.1];exact hs.2 i hi) (by have:=hs.1;lia);rw[aag,abv,nB];by_cases c:av r s∈x.1
  ·have ei:ins x _=x:=h9 c;obtain⟨b7,b8,e⟩:=XS hr h8 S x (some (ak s)) (some (ak (av r s))) (λy hy=>hS y (aan _ hy)) ne h hg;refine⟨b7,b8,?_⟩;rw[ei,←e];have d:decide ((120:Int)<(x.1.length:Nat))=false:=hV (by lia);unfold ik;simp only[Pzz,t,R9,hJ c,R_ ne,d]
  ·have ei:ins x _=(x.1++[av r s],x.2++[av r s]):=hZ c;have p:∀{i:Nat} {ρ:Ev},S5 i _ _ ρ _=.nx _:=XQ (by lia) c;have la:(x.2.map ak).length<aah:=by rw[aab];lia
   have mm:x.2.map ak++[ak (av r s)]=(x.2++[av r s]).map ak:=by rw[aaG];rfl
   have l1:(x.1++[av r s]).length=x.1.length+1:=by rw[aaj];rfl
   have n1:x.1++[av r s]≠[]:=by simp
   by_cases c2:x.1.length+1<=120
   ·obtain⟨b7,b8,e⟩:=XS hr h8 S (x.1++[av r s],x.2++[av r s]) (some (ak s)) (some (ak (av r s))) (λy hy=>hS y (aan _ hy)) n1 (by rw[l1];exact c2) (by rw[aaj,aaj];lia);refine⟨b7,b8,?_⟩;rw[ei,←e];have d:decide ((120:Int)<((x.1++[av r s]).length:Nat))=false:=hV (by lia);unfold ik;simp only[Pzz,t,R9,hV c,mH,p,Po,la,mm,R_ n1,d]
   ·refine⟨none,none,?_⟩;rw[ei,hZ (λz=>by
     have:=r6 (op:=av) (r:=r) S (x.1++[av r s],x.2++[av r s]);have t1:=by show 121<=(x.1++[av r s]).length;lia
     exact absurd (aaR (aaR t1 this) z) (by decide))]
    have d:decide ((120:Int)<((x.1++[av r s]).length:Nat))=true:=hJ (by lia);unfold ik;simp only[Pzz,t,R9,hV c,mH,p,Po,la,R_ n1,d,uT]
theorem Vm {x0 x:MF}{P:Rw->Prop}(g:Gd x0 x P)(h:x0.2.length<=x0.1.length):x.2.length<=x.1.length:=by
 obtain⟨F,e1,e2⟩:=g.new;rw[e1,e2,aaj,aaj];lia
theorem Vn {n:Nat}(h8:n<=8){S:List Rw}(hS:∀s∈S,Ow n s){a0 a2 a4:Option U}:∀(F:List Rw) (x:MF) (a6 a7 a8:Option U),(∀r∈F,Ow n r)->x.1.Nodup->x.1≠[]->x.1.length<=120->x.2.length<=x.1.length->
  ∃b6 b7 b8,d6 (bB 6) ip (F.map ak) (eP a0 (some (.lst (S.map ak))) a2 a4 a6 a7 a8 x)=if (lvl av S F x).1.length<=120 then .nx (eP a0 (some (.lst (S.map ak))) a2 a4 b6 b7 b8 (lvl av S F x)) else .exc "TooMany" .non
 | [],x,a6,a7,a8,_,_,_,h,_=>⟨a6,a7,a8,by unfold lvl;rw[List.foldl_nil,h9 h];rfl⟩
 |r::F,x,a6,a7,a8,hF,nd,ne,h,hg=>by
  obtain⟨c7,c8,e⟩:=XS (hF r aal) h8 (a0:=a0) (a1:=some (.lst (S.map ak))) (a2:=a2) (a4:=a4) S x a7 a8 hS ne h hg;have g:=Gd.row (op:=av) (r:=r) (S:=S) (Gd.refl nd);have gl:=Vm g hg;have rl:=r6 (op:=av) (r:=r) S x;have un:lvl av S (r::F) x=lvl av S F (S.foldl _ x):=rfl;rw[un];generalize S.foldl _ x=y at e g gl rl ⊢;have ny:y.1≠[]:=λz=>by
   rw[z] at rl;have:=abi.mpr ne;have e0:(([]:List Rw)).length=0:=rfl;lia
  rw[aag,nB];by_cases c:y.1.length<=120
  ·rw[h9 c] at e;obtain⟨b6,b7,b8,e2⟩:=Vn h8 hS F y (some (ak r)) c7 c8 (λz hz=>hF z (aan _ hz)) g.nd ny c gl;refine⟨b6,b7,b8,?_⟩;rw[←e2];unfold ip;simp only[Pzz,e]
  ·rw[hZ c] at e;refine⟨none,none,none,?_⟩;rw[hZ (λz=>c (aaR (Et F y) z))];unfold ip;simp only[Pzz,e,uT]
noncomputable def hP:Ev->R (Bool×Ev):=gB (bb NU (gq iR (af (ae 4) ao)) (gC (.int 0)))
noncomputable def bP:Ev->SR:=aH (aY 5 (dI ao)) (aH (fm (fj (ae 4)) (bB 6) ip) (sQ 4 5))
def XU:kW=aH (aY 2 (vY (af (ae 0) ao))) (aH (aY 3 (Jy (ae 2))) (aH (aY 4 (dI (af (ae 2) ao))) (aH (fi hP bP 1000) (bT (gq j3 (af (ae 3) ao)))))):=rfl
noncomputable abbrev rP (n:Nat)(S:List Rw)(a2 a5 a6 a7 a8:Option U)(M F:List Rw):Ev:=[some (.int n),some (.lst (S.map ak)),a2,some (DB M),some (.lst (F.map ak)),a5,a6,a7,a8]
section
variable {S:List Rw}
theorem Vo {a2 a5 a6 a7 a8:Option U}{M:List Rw}:hP (rP n S a2 a5 a6 a7 a8 M F)=.ok (!F.isEmpty,rP n S a2 a5 a6 a7 a8 M F):=by
 have d:decide ((0:Int)<((F.map ak).length:Nat)) = !F.isEmpty:=by
  cases F with
  |nil=>rfl
  |cons x F=>rw[aab,aat];exact hJ (by lia)
 unfold hP;simp only[Pzz,d]
theorem Vp (h8:n<=8)(hS:∀s∈S,Ow n s){a2 a5 a6 a7 a8:Option U}{M:List Rw}(hF:∀r∈F,Ow n r)(nd:M.Nodup)(ne:M≠[])(h:M.length<=120) :
  ∃b6 b7 b8,bP (rP n S a2 a5 a6 a7 a8 M F)=if (lvl av S F (M,[])).1.length<=120 then .nx (rP n S a2 none b6 b7 b8 (lvl av S F (M,[])).1 (lvl av S F (M,[])).2) else .exc "TooMany" .non:=by
 obtain⟨b6,b7,b8,e⟩:=Vn h8 hS F (M,[]) a6 a7 a8 hF nd ne h (acM _);refine⟨b6,b7,b8,?_⟩;have e:d6 (bB 6) _ _ [some (.int n),some _,a2,some (DB M),some (.lst (F.map ak)),some (.lst []),a6,a7,a8]=_:=e;unfold bP;by_cases c:(lvl av S F (M,[])).1.length<=120
 ·rw[h9 c] at e ⊢;simp only[Pzz,e]
 ·rw[hZ c] at e ⊢;simp only[Pzz,e,Eu]
end
section
variable {T:List Rw}
def XW (n:Nat)(T:List Rw)(r:SR):Prop:=
 (r=.exc "TooMany" .non/\∃k M F,Lv av (au n) T k M F/\120<M.length)\/∃a2 a5 a6 a7 a8 k M,r=.nx (rP n T a2 a5 a6 a7 a8 M [])/\Lv av (au n) T k M []/\M.length<=120
theorem Sd (h8:n<=8)(hS:∀s∈T,Ow n s):∀(N k:Nat) (M F:List Rw) (a2 a5 a6 a7 a8:Option U),Lv av (au n) T k M F->M.length<=120->(F=[]\/122<=N+M.length)->XW n T (fi hP bP (N+1) (rP n T a2 a5 a6 a7 a8 M F)):=by
 have fin:∀(N k:Nat) (M:List Rw) (a2 a5 a6 a7 a8:Option U),Lv av _ T k M []->M.length<=120->XW n T (fi hP bP (N+1) (rP n T a2 a5 a6 a7 a8 M [])):=λN k M a2 a5 a6 a7 a8 L hm=>.inr ⟨a2,a5,a6,a7,a8,k,M,by rfl,L,hm⟩;intro N
 induction N with
 |zero=>
  intro k M F a2 a5 a6 a7 a8 L hm hz;have hF:=hz.resolve_right (by lia);subst hF;exact fin 0 k M a2 a5 a6 a7 a8 L hm
 |succ N ih=>
  intro k M F a2 a5 a6 a7 a8 L hm hz;by_cases hF:F=[]
  ·subst hF;exact fin _ k M a2 a5 a6 a7 a8 L hm
  ·have hz:=hz.resolve_left hF;have nf:(!F.isEmpty)=true:=by cases F with
    |nil=>exact absurd rfl hF
    |cons=>rfl
   obtain⟨L1,q1⟩:=L.step;obtain⟨c6,c7,c8,e1⟩:=Vp h8 hS (λr hr=>Kt (λa b ha hb=>Sa ha hb) hS ((L.mem r).mp (L.sub r hr))) L.nd L.ne hm;rw[xJ,Vo,nf];show XW n T ((bP _).turn _);rw[e1];generalize lvl av T F (M,[])=x at L1 q1 ⊢;by_cases c:x.1.length<=120
   ·rw[h9 c];refine ih (k+1) _ _ _ _ _ _ _ L1 c ?_;by_cases z:x.2=[]
    ·exact .inl z
    ·have:=abi.mpr z;exact .inr (by lia)
   ·rw[hZ c];exact .inl ⟨uT,_,_,_,L1,by lia⟩
def Wd (n:Nat)(T:List Rw)(x:Rw):Prop:=∃k,Wo av (au n) T k x
def Kv:Wd n T (au n):=⟨0,rfl⟩
theorem Ew {x s:Rw}(h:Wd n T x)(hs:s∈T):Wd n T (av x s):=by
 obtain⟨k,h⟩:=h;exact⟨k+1,.inr ⟨x,h,s,hs,rfl⟩⟩
theorem yI {P:Rw->Prop}(h0:P (au n))(h1:∀x s,Wd n T x->P x->s∈T->P (av x s)){x:Rw}(h:Wd n T x):P x:=by
 obtain⟨k,h⟩:=h
 induction k generalizing x with
 |zero=>
  have:=h;rw[this];exact h0
 |succ k ih=>
  rcases h with h|⟨w,hw,s,hs,rfl⟩
  ·exact ih h
  ·exact h1 w s ⟨k,hw⟩ (ih hw) hs
def mJ (hT:∀s∈T,cw n s){x:Rw}(h:Wd n T x):cw n x:=yI (.refl _) (λx s _ hx hs=>Ek hx (hT s hs)) h
def Cu (hT:∀s∈T,cw n s){s:Rw}(hs:s∈T):Wd n T s:=by
 have:=Ew (n:=n) Kv hs
 rwa [rZ (hT s hs)] at this
def Kw (hT:∀s∈T,cw n s){x y:Rw}(hx:Wd n T x)(hy:Wd n T y):Wd n T (av x y):=by
 refine yI (P:=λy=>Wd n T _) ?_ (λy s hy ih hs=>?_) hy
 ·rw[jW (bV (mJ hT hx))];exact hx
 ·rw[←R7 (bV (mJ hT hy)) (hT s hs)];exact Ew ih hs
def Kx {T':List Rw}(hT:∀s∈T,cw n s)(h:∀s∈T',Wd n T s){x:Rw}(hx:Wd n T' x):Wd n T x:=yI Kv (λx s _ ih hs=>Kw hT ih (h s hs)) hx
theorem Ex (h1:1<=n)(h8:n<=8)(hT:∀s∈T,cw n s):(dW [.int n,.lst (T.map ak)]=.exc "TooMany" .non/\∃M:List Rw,M.Nodup/\120<M.length/\∀x∈M,Wd n T x)\/∃M:List Rw,dW [.int n,.lst (T.map ak)]=.ok (.lst ((bG M).map ak))/\M.Nodup/\M.length<=120/\∀x,x∈M↔Wd n T x:=by
 have Q:=Sd h8 (λs hs=>Ph (hT s hs)) 999 0 _ _ (some (ak (au n))) none none none none Lv.zero (by show 1<=120;decide) (.inr (by show 122<=999+1;decide));have er:ak (au n)=.tup (aP 0 n):=by rw[dJ];rfl
 have dt:∀{ρ:Ev},XR (.tup (aP 0 n)) ρ=.ok (DB [au n],ρ):=by rw[←er];exact Nr
 have Yn:dW [.int n,.lst (T.map ak)]=Fu .O ((fi hP bP 1000 (rP n T (some (ak (au n))) none none none none [au n] [au n])).seq (bT (gq j3 (af (ae 3) ao)))):=by
  rw[dW,XU,er];have mm:[au n].map ak=[.tup (aP 0 n)]:=by rw[←er];rfl
  show _=Fu .O ((fi hP bP 1000 [some (.int n),some _,some _,some _,some _,none,none,none,none]).seq _);rw[mm];simp only[Pzz,dG,Nat.reduceAdd,jE n (by lia),Vk,dt]
 rw[Yn];rcases Q with⟨e1,k,M,F,L,hM⟩|⟨a2,a5,a6,a7,a8,k,M,e1,L,hM⟩
 ·exact .inl ⟨by rw[e1,Eu,Ku],M,L.nd,hM,λx hx=>⟨k,(L.mem x).mp hx⟩⟩
 ·right;have hO:=λx hx=>mJ hT ⟨k,(L.mem x).mp hx⟩;have s1:=Vj L.ne (by lia) λx hx z=>by
   have:=bV (hO x hx);rw[z] at this;have e0:(([]:Rw)).length=0:=rfl;lia
  refine⟨M,?_,L.nd,hM,λx=>⟨λhx=>⟨k,(L.mem x).mp hx⟩,λh=>yI ?_ (λx s _ hx hs=>(L.ext x hx).elim (λz=>nomatch z) λz=>z s hs) h⟩⟩
  ·rw[e1];simp only[Pzz,s1]
  ·refine (L.mem _).mpr ?_;have:∀k,Wo av (au n) T k _:=λk=>by
    induction k with
    |zero=>rfl
    |succ k ih=>exact .inl ih
   exact this k
def Gb (c:Rw)(CF:List Rw):K_ not (ak c) (.lst (CF.map ak))=.ok (.bl (!decide (c∈CF))):=uR c CF
theorem Ky {a b:U}{f:List U->R U}{o:Option U}{v:U}(h:f [a,b]=.ok v\/(∃c u,f [a,b]=.exc c u)/\v=.non):zI 2 2 f (af (ae 0) (af (ae 1) ao)) [some a,some b,o]=.nx [some a,some b,some v]:=by
 show (match sP 2 f [a,b] with
  | .ok z=>SR.nx [some a,some b,some z]
  | .exc _ _=>.nx [some a,some b,some .non]
  | .stk=>.stk)=_
 rw[show sP 2 f [a,b]=f [a,b] from h9 rfl];rcases h with h|⟨⟨c,u,h⟩,rfl⟩<;>rw[h]
def Cv (h:l.Nodup):S6 l:=λx hx y hy=>by rw[h.count,h.count,h9 hx,h9 hy]
theorem KA (h1:1<=n)(h8:n<=8)(hT:∀s∈T,cw n s)(hl:T.length<=100):fx [.int n,.lst (T.map ak)]=.ok (.bl true):=by
 have sz:aah=16777216:=rfl;rcases Ex h1 h8 hT with⟨e,_⟩|⟨M,e,nd,hM,mm⟩
 ·have tr:=Ky (o:=some .non) (.inr ⟨⟨_,_,e⟩,rfl⟩);have n1:sZ .non=true:=rfl;unfold fx gN;simp only[Pzz,dG,tr,n1,id]
 ·have tr:=Ky (o:=some .non) (.inl e);have n1:∀us,sZ (.lst us)=false:=λ_=>rfl;have km:∀x,x∈bG M↔Wd n T x:=λx=>by rw[(ba M).mem_iff];exact mm x
  have kl:(bG M).length<=120:=by rw[(ba M).length_eq];exact hM
  have knd:=(ba M).nodup_iff.mpr nd;have fl:=pX (f:=xw [none,some 2] (bB 0) (gB (bb (K_ not) (ae 0) (ae 1))) (ae 0) [some (.int n),some (.lst (T.map ak)),some (.lst ((bG M).map ak))]) (c:=ak) (p:=λo=> !decide _) (xs:=T) λo ho=>by
   simp only[Pzz,Gb];cases decide (o∈bG M)<;>rfl
  have nil:T.filter (λo=> !decide _)=[]:=List.filter_eq_nil_iff.mpr λo ho=>by
   rw[hJ ((km o).mpr (Cu hT ho))];exact aaz
  rw[nil] at fl;have en:qX (.lst []) (.lst [])=.ok true:=by kernel_rfl
  have cu:iD ((bG M).map ak) none (some 3)=((bG M).take 3).map ak:=by rw[adl];exact jj _ 3
  have ad:(((bG M).take 3).map ak).length+(T.map ak).length<=aah:=by
   rw[aab,aab,aaE];lia
  have e2:dW [.int n,.lst (((bG M).take 3++T).map ak)]=.ok (.lst ((bG M).map ak)):=by
   have Wy:∀s∈(bG M).take 3++T,Wd n T s:=λs hs=>(aaQ.mp hs).elim (λz=>(km s).mp (abf z)) (Cu hT);have up:∀x,Wd n _ x↔Wd n T x:=λx=>⟨Kx hT Wy,Kx (λs hs=>mJ hT (Wy s hs)) λs hs=>Cu (λs hs=>mJ hT (Wy s hs)) (aaU _ hs)⟩;rcases Ex h1 h8 λs hs=>mJ hT (Wy s hs) with⟨_,M',nd',l',m'⟩|⟨M',e',nd',_,m'⟩
   ·have:=Ks nd' λx hx=>(mm x).mpr ((up x).mp (m' x hx));lia
   ·rw[e',iY ((ad0 nd' nd).mpr λx=>by rw[m',mm,up])]
  rw[aaG] at e2;have eK:=Ng (bG M);have s2:((bG M).map ak).length<=aah:=by rw[aab];lia
  have s0:(0:Nat)<=aah:=by decide
  obtain⟨t,ec,ht⟩:=mI h8 (λz=>by
   have:=(km _).mpr Kv;rw[z] at this;cases this) (by lia) λs hs=>mJ hT ((km s).mp hs)
  have t1:=ht.mpr ⟨Cv knd,by
   unfold F8;rw[aaJ];intro a ha;rw[aaJ];intro b hb;exact hJ ((km _).mpr (Kw hT ((km a).mp ha) ((km b).mp hb)))⟩
  rw[t1] at ec;have ec:br [.tup _]=.ok _:=ec;unfold fx gN;by_cases c:(24:Int)<((((bG M).map ak).length:Nat):Int)
  ·simp only[Pzz,dG,tr,n1,id,fl,en,cu,ad,e2,eK,hJ c]
  ·simp only[Pzz,dG,tr,n1,id,fl,en,s0,cu,ad,e2,eK,hV c,ec]
end
noncomputable def PT (p:List Int):U:=.tup (p.map .int)
noncomputable def PU (ps:List (List Int)):U:=.tup (ps.map PT)
noncomputable def iA (q:List (Int×Int))(x:Int):Int:=q.foldl (λv z=>if z.1=x then z.2 else v) x
noncomputable def jl (q:List (Int×Int))(x v:Int):Int:=q.foldl (λv z=>if z.1=x then z.2 else v) v
noncomputable def lM (ps:List (List Int))(r9:List Int):List (Int×Int):=(ps.zip r9).flatMap λz=>z.1.zip (ps.getD z.2.toNat [])
noncomputable def mv (m:Nat)(q:List (Int×Int)):List Int:=(au m).map (iA q)
noncomputable def dg (o:List Int)(q:List (Int×Int)):List Int:=q.foldl (λo z=>o.set z.1.toNat z.2) o
theorem jY:∀(q:List (Int×Int)) (o:List Int),(dg o q).length=o.length
 | [],_=>rfl
 |z::q,o=>by
  show (dg _ q).length=_;rw[jY q,abQ]
theorem uU:∀(q:List (Int×Int)) (o:List Int) (i:Nat) (v:Int),(∀z∈q,0<=z.1)->o[i]? = some v->(dg o q)[i]? = some (jl q i v)
 | [],_,_,_,_,h=>h
 |z::q,o,i,v,hz,h=>by
  have hi:=(aap.mp h).1;have h0:=hz z aal;show (dg (o.set z.1.toNat z.2) q)[i]? = some (jl q i (if z.1=i then z.2 else v));refine uU q _ i _ (λy hy=>hz y (aan _ hy)) ?_;by_cases c:z.1=i
  ·rw[h9 c,c];rw[aaY,adx hi]
  ·rw[hZ c,aa4 (by lia)];exact h
def jZ (h:i<m):(au m)[i]? = some (i:Int):=by
 unfold au;rw[aar,aej h];rfl
theorem Ge (m:Nat)(q:List (Int×Int))(h:∀z∈q,0<=z.1):dg (au m) q=mv m q:=by
 apply aeW;intro i;by_cases c:i<m
 ·rw[uU q _ i i h (jZ c)];unfold mv;rw[aar,jZ c];rfl
 ·rw[aby.mpr (by rw[jY,bC];lia),aby.mpr (by unfold mv;rw[aab,bC];lia)]
def uW (o:List Int)(q r:List (Int×Int)):dg o (q++r)=dg (dg o q) r:=by
 unfold dg;rw[adX]
noncomputable def Vq (us:List U)(ρ:Ev):R (List U×Ev):=match us with
 | [u,w]=>match Fp u,Fp w with
  |some us,some ws=>.ok (ab7 (λa b=>.tup [a,b]) us ws,ρ)
  |_,_=>.stk
 |_=>.stk
def Pp {ga:Ev->R (List U×Ev)}:Fq ga ρ=(ga ρ).bind λx=>Vq x.1 x.2:=nr rfl
def Nu {ws:List U}:Vq [.tup us,.tup ws] ρ=.ok (ab7 (λa b=>.tup [a,b]) us ws,ρ):=nr rfl
theorem Se {p q:List Int}(h:(ab7 (λa b=>U.tup [a,b]) (p.map U.int) (q.map U.int))[j]? = some u):∃x y,p[j]? = some x/\q[j]? = some y/\u=.tup [.int x,.int y]:=by
 rw[acx,aar,aar] at h;cases e1:p[j]? with
 |none=>rw[e1] at h;cases h
 |some x=>
  cases e2:q[j]? with
  |none=>rw[e1,e2] at h;cases h
  |some y=>
   rw[e1,e2] at h;exact⟨x,y,rfl,rfl,(aaX h).symm⟩
def vF {p q:List Int}{x y:Int}(h1:p[j]? = some x)(h2:q[j]? = some y):(p.zip q).take (j+1)=(p.zip q).take j++[(x,y)]:=by
 have e:(p.zip q)[j]? = some (x,y):=by
  rw[List.zip,acx,h1,h2]
 rw[List.take_succ,e];rfl
def Vr {w:U}{x:Int}(h0:0<=x)(h1:x<us.length):UB i w (.int x) ρ (some (some (.lst us)))=.nx (ρ.set i (some (.lst (us.set x.toNat w)))):=by
 refine Om ?_;unfold EN;rw[h9 h0,h9 h1]
theorem Nv {ps:List (List Int)}{r9:List Int}{z:Int×Int}(h:z∈lM ps r9):∃p∈ps,z.1∈p:=by
 obtain⟨⟨p,s⟩,h1,h2⟩:=acI.mp h;exact⟨p,(aey h1).1,(aey h2).1⟩
theorem oI {ps:List (List Int)}{r9:List Int}(hm:m<=1000)(Te:∀p∈ps,∀x∈p,0<=x/\x<m)(Yo:∀s∈r9,0<=s/\s<ps.length) :
  dM [.int m,PU ps,.tup (r9.map .int)]=.ok (.tup ((mv m (lM ps r9)).map .int)):=by
 let T:=λn=>((ps.zip r9).take n).flatMap λz=>z.1.zip (ps.getD z.2.toNat [])
 obtain⟨ρ',e1,a,b,c,d,rfl⟩:=bF (us:=ab7 (λa b=>U.tup [a,b]) (ps.map PT) (r9.map U.int)) (sg:=du 2 (aM (bB 4) (aM (bB 5) dD)))
  (s:=fm (Fq (af (ae 4) (af (bb rK (ae 1) (ae 5)) ao))) _ _)
  (λn ρ=>∃a b c d:Option U,ρ=[some (.int m),some (PU ps),some (.tup (r9.map .int)),some (.lst ((dg (au m) (T n)).map .int)),a,b,c,d])
  (λi u ρ hu h00=>by
   obtain⟨a,b,c,d,hr⟩:=h00;subst hr;have hz:∃p s,ps[i]? = some p/\r9[i]? = some s/\u=.tup [PT p,.int s]:=by
    rw[acx,aar,aar] at hu;cases e1:ps[i]? with
    |none=>rw[e1] at hu;cases hu
    |some x=>
     cases e2:r9[i]? with
     |none=>rw[e1,e2] at hu;cases hu
     |some y=>
      rw[e1,e2] at hu;exact⟨x,y,rfl,rfl,(aaX hu).symm⟩
   obtain⟨p,s,hp,hs,rfl⟩:=hz;have hpm:=aaZ hp;have hsm:=Yo s (aaZ hs);obtain⟨k,rfl⟩:∃k:Nat,s=k:=⟨s.toNat,by lia⟩;have hk:k<ps.length:=by lia
   have ek:mP (ps.map PT) (k:Int)=some (PT ps[k]):=by
    rw[we,aar,aac hk];rfl
   have gd:ps.getD k []=ps[k]:=by rw[aav,aac hk];rfl
   have t1:T (i+1)=T i++p.zip ps[k]:=by
    show ((ps.zip r9).take (i+1)).flatMap _=_;have e:(ps.zip r9)[i]? = some (p,(k:Int)):=by rw[List.zip,acx,hp,hs]
    rw[List.take_succ,e,afB];show _++(p.zip _++[])=_;rw[aaY,gd,aa2]
   obtain⟨ρ2,e2,c',d',rfl⟩:=bF (sg:=du 2 (aM (bB 6) (aM (bB 7) dD))) (s:=vX 3 (ae 7) (ae 6))
    (λj ρ=>∃c d:Option U,ρ=[some (.int m),some (PU ps),some _,some (.lst ((dg (dg (au m) (T i)) ((p.zip ps[k]).take j)).map .int)),some (PT p),some (.int k),c,d])
    (λj u ρ hu h00=>by
     obtain⟨c,d,hr⟩:=h00;subst hr;obtain⟨x,y,hx,hy,rfl⟩:=Se hu;have bx:=Te p hpm x (aaZ hx);refine⟨_,[some (.int m),some (PU ps),some _,some _,some (PT p),some (.int k),some (.int x),some (.int y)],La,.inl ?_,_,_,rfl⟩;have ln:x<(((dg (dg (au m) (T i)) ((p.zip ps[k]).take j)).map U.int).length:Nat):=by rw[aab,jY,jY,bC];lia
     simp only[Pzz,Vr bx.1 ln];rw[vF hx hy,uW];have es:((dg (dg (au m) (T i)) ((p.zip ps[k]).take j)).map U.int).set x.toNat (.int y)=(dg (dg (dg (au m) (T i)) ((p.zip ps[k]).take j)) [(x,y)]).map U.int:=by
      rw[←List.map_set];rfl
     rw[es])
    (ρ:=[some (.int m),some (PU ps),some (.tup (r9.map .int)),some (.lst ((dg _ (T i)).map .int)),some (PT p),some (.int k),c,d]) ⟨c,d,rfl⟩
   refine⟨_,_,La,.inl ?_,some (PT p),some (.int k),c',d',rfl⟩;have fin:(p.zip ps[k]).take (ab7 (λa b=>U.tup [a,b]) (p.map U.int) (ps[k].map U.int)).length=p.zip ps[k]:=by
    refine abN ?_;rw[acn,aab,aab,List.length_zip];exact aao _
   rw[fin,←uW,←t1] at e2;simp only[Pzz,PU,ek,Pp,PT];exact e2)
  (ρ:=[some (.int m),some (PU ps),some _,some (.lst ((au m).map .int)),none,none,none,none]) ⟨_,_,_,_,rfl⟩
 have hT:T (ab7 (λa b=>U.tup [a,b]) (ps.map PT) (r9.map U.int)).length=lM ps r9:=by
  show ((ps.zip r9).take _).flatMap _=_;rw[abN (by rw[acn,aab,aab,List.length_zip];exact aao _)];rfl
 rw[hT,Ge] at e1
 ·simp only[PU] at e1;simp only[dM,kC,Pzz,dG,PU,xM m (by lia),dJ,Pp,Nu,e1]
 ·intro z hz;obtain⟨p,hp,hx⟩:=Nv hz;exact (Te p hp _ hx).1
structure KC (m sz:Nat)(ps:List (List Int)):Prop where
 n1:1<=ps.length
 n8:ps.length<=8
 s8:sz<=8
 len:∀p∈ps,p.length=sz
 inn:∀p∈ps,∀x∈p,0<=x/\x<m
noncomputable def yJ (n t:Nat):List Int:=(au n).drop t++(au n).take t
def Si:∀n,n<=8->∀t,t<n->∀s∈yJ n t,0<=s/\s<n:=by decide+kernel
noncomputable def Nw (m:Nat)(ps:List (List Int)):List (List Int):=(aa7 ps.length).map λt=>mv m (lM ps (yJ ps.length t))
theorem qM {sz:Nat}{ps:List (List Int)}(hm:m<=1000)(g:KC m sz ps):eY [.int m,PU ps]=.ok (PU (Nw m ps)):=by
 have sl:aah=16777216:=rfl;have n8:=g.n8;have e:yO (xw [none,some 0,some 1,some 2] (bB 0) cR (eR 3 dM (af (ae 1) (af (ae 2) (af (bb cB (lY ki (ae 3) (bY (ae 0)) cW) (lY ki (ae 3) cW (bY (ae 0)))) ao)))) [some (.int m),some (PU ps),some (.tup ((au ps.length).map .int))]) ((au ps.length).map U.int)=.ok (((au ps.length).map U.int).map λu=>match u with|.int x=>PT (mv m (lM ps (yJ ps.length x.toNat)))|_=>.non):=by
  refine Du λu hu=>?_;obtain⟨x,hx,rfl⟩:=aas.mp hu;obtain⟨b0,b1⟩:=eT.mp hx;obtain⟨t,rfl⟩:∃t:Nat,x=t:=⟨x.toNat,by lia⟩;have ht:t<ps.length:=by lia
  have el:((List.drop t ((au ps.length).map U.int)).length+(List.take t ((au ps.length).map U.int)).length)<=aah:=by
   rw[abb,aaE,aab,bC];lia
  have er:List.drop t ((au ps.length).map U.int)++List.take t ((au ps.length).map U.int)=(yJ ps.length t).map U.int:=by
   unfold yJ;rw[aaG,aeL,adl]
  have ex:=oI hm g.inn (Si _ n8 t ht);simp only[Pzz,kF,jj,el,er,ex,aaY,PT]
 rw[aaq] at e;simp only[PU] at e;simp only[eY,mB,Pzz,dG,PU,aab,jE ps.length (by lia),dJ,e];unfold Nw;rw[aaq];unfold au;rw[aaq];rfl
noncomputable def yK:Nat->List Int->List (List Int)
 |0,_=>[]
 |_+1,[]=>[[]]
 |n+1,l=>l.flatMap λx=>(yK n (l.filter λy=>y != x)).map λr=>x::r
def Ny:∀n,1<=n->n<=4->iq 20 [.lst ((au n).map .int)]=.ok (.lst ((yK 5 (au n)).map PT))
 |1,_,_=>by kernel_rfl
 |2,_,_=>by kernel_rfl
 |3,_,_=>by kernel_rfl
 |4,_,_=>by kernel_rfl
def Sj:∀n,n<=4->∀r∈yK 5 (au n),r.length=n/\∀s∈r,0<=s/\s<n:=by decide+kernel
noncomputable def Vs (m:Nat)(ps:List (List Int)):List (List Int):=(yK 5 (au ps.length)).map λr=>mv m (lM ps r)
theorem AV {sz:Nat}{ps:List (List Int)}(hm:m<=1000)(g:KC m sz ps)(h4:ps.length<=4):fJ [.int m,PU ps]=.ok (PU (Vs m ps)):=by
 have n1:=g.n1;have e:yO (xw [none,some 0,some 1] (bB 0) cR (eR 3 dM (af (ae 1) (af (ae 2) (af (ae 0) ao)))) [some (.int m),some (PU ps)]) ((yK 5 (au ps.length)).map PT)=.ok ((yK 5 (au ps.length)).map λr=>PT (mv m (lM ps r))):=by
  refine de λr hr=>?_;have ex:=oI hm g.inn (Sj _ h4 r hr).2;simp only[Pzz,PT,ex]
 have d:decide ((4:Int)<((ps.length:Nat):Int))=false:=hV (by lia);have ar:=Ny ps.length n1 h4;simp only[PU] at e;simp only[fJ,mC,Pzz,dG,Nat.reduceAdd,Nat.reduceSub,PU,aab,d,xM ps.length (by lia),dJ,ar,e];unfold Vs;rw[aaq];rfl
theorem KD {pl:List Int}(hm:m<=1000)(l1:1<=pl.length)(l8:pl.length<=8)(hp:∀x∈pl,0<=x/\x<m):KC m 1 (pl.map λx=>[x])/\Ao [.int m,.tup (pl.map .int)]=.ok (PU (Nw m (pl.map λx=>[x]))):=by
 have g:KC m 1 (pl.map λx=>[x]):=⟨by rw[aab];exact l1,by rw[aab];exact l8,by decide,λp h=>by obtain⟨x,_,rfl⟩:=aas.mp h;rfl,λp h y hy=>by
  obtain⟨x,hx,rfl⟩:=aas.mp h;rw[aaK] at hy;subst hy;exact hp y hx⟩
 refine⟨g,?_⟩;have e:yO (xw [none] (bB 0) cR (eC (af (ae 0) ao)) [some (.int m),some (.tup (pl.map .int))]) (pl.map U.int)=.ok ((pl.map λx=>[x]).map PT):=by
  rw[aaq];refine de λu hu=>?_;rfl
 have pc:=qM hm g;simp only[Ao,JC,Pzz,dG,Nat.reduceAdd,Nat.reduceSub,e];show Fu .S (SR.of ((eY [.int m,PU _]).bind _) _)=_;rw[pc];rfl
theorem AW {x y:Int}:∀{q:List (Int×Int)} {v:Int},(q.map (·.1)).Nodup->(x,y)∈q->jl q x v=y
 |z::q,v,nd,h=>by
  rw[aag,abB] at nd;unfold jl;rw[abv];rcases aaw.mp h with rfl|h
  ·rw[h9 rfl];have out:∀(q:List (Int×Int)) (v:Int),x∉q.map (·.1)->q.foldl (λv z=>if z.1=x then z.2 else v) v=v:=by
    intro q
    induction q with
    |nil=>exact λ_ _=>rfl
    |cons z q ih=>
     intro v h;rw[abv,hZ λe=>h (by rw[←e];exact aal)];exact ih v λm=>h (aan _ m)
   exact out q y nd.1
  ·exact AW nd.2 h
theorem AX {x:Int}:∀{q:List (Int×Int)} {v:Int},x∉q.map (·.1)->jl q x v=v
 | [],_,_=>rfl
 |z::q,v,h=>by
  unfold jl;rw[abv,hZ λe=>h (by rw[←e];exact aal)];exact AX λm=>h (aan _ m)
structure Pi (m sz:Nat)(ps:List (List Int)):Prop where
 g:KC m sz ps
 nd:ps.flatten.Nodup
 z1:1<=sz
structure Sr (K:Nat)(s:List Int):Prop where
 ln:s.length=K
 inn:∀x∈s,0<=x/\x<K
section
variable {sz:Nat}{ps:List (List Int)}{s t:List Int}
noncomputable def cd (ps:List (List Int))(k j:Nat):Int:=(ps.getD k []).getD j 0
def fW (P:Pi m sz ps)(hk:k<ps.length):ps.getD k []=ps[k]/\(ps.getD k []).length=sz:=by
 have:ps.getD k []=ps[k]:=by rw[aav,aac hk];rfl
 exact⟨this,by rw[this];exact P.g.len _ (aaH hk)⟩
theorem Cw (P:Pi m sz ps)(hk:k<ps.length)(hj:j<sz):cd ps k j∈ps.getD k []:=by
 have l:=(fW P hk).2;unfold cd;rw[aav (l:=ps.getD k []),aac (by lia)];exact aaH _
def Pq (P:Pi m sz ps)(hk:k<ps.length)(hj:j<sz):0<=cd ps k j/\cd ps k j<m:=P.g.inn _ (by rw[(fW P hk).1];exact aaH hk) _ (Cw P hk hj)
theorem AY (P:Pi m sz ps):∀(l:List (List Int)) (s:List Int),l.length=s.length->(∀p∈l,p.length=sz)->(∀x∈s,0<=x/\x<ps.length)->(((l.zip s).flatMap λz=>z.1.zip (ps.getD z.2.toNat [])).map (·.1))=l.flatten
 | [],s,_,_,_=>rfl
 |p::l,[],h,_,_=>by simp at h
 |p::l,x::s,h,hl,hs=>by
  have hx:=hs x aal;have l2:=(fW P (k:=x.toNat) (by lia)).2;have l1:=hl p aal;rw[aeJ,abL,aaG,AY P l s (by simpa using h) (λq hq=>hl q (aan _ hq)) (λy hy=>hs y (aan _ hy))];congr 1;exact List.map_fst_zip (by show p.length<=(ps.getD x.toNat []).length;lia)
def Ey (P:Pi m sz ps)(hs:Sr ps.length s):(lM ps s).map (·.1)=ps.flatten:=AY P ps s hs.ln.symm P.g.len hs.inn
theorem mK (P:Pi m sz ps)(hs:Sr ps.length s)(hk:k<ps.length)(hj:j<sz):iA (lM ps s) (cd ps k j)=cd ps (s.getD k 0).toNat j:=by
 have A_:k<s.length:=by rw[hs.ln];exact hk
 have e1:s.getD k 0=s[k]:=by rw[aav,aac A_];rfl
 have hx:=hs.inn s[k] (aaH A_);have l1:=(fW P hk).2;have l2:=(fW P (k:=s[k].toNat) (by lia)).2;refine AW (by rw[Ey P hs];exact P.nd) (acI.mpr ⟨(ps[k],s[k]),?_,?_⟩)
 ·have:(ps.zip s)[k]? = some (ps[k],s[k]):=by rw[ad8];exact⟨aac hk,aac A_⟩
  exact aaZ this
 ·have:(ps[k].zip (ps.getD s[k].toNat []))[j]? = some (cd ps k j,cd ps s[k].toNat j):=by
   rw[ad8];have gd:∀(l:List Int),j<l.length->l[j]? = some (l.getD j 0):=λl h=>by rw[aav,aac h];rfl
   refine⟨?_,gd _ (by lia)⟩;have:=gd (ps.getD k []) (by lia);rw[(fW P hk).1] at this;rw[this];unfold cd;rw[(fW P hk).1]
  rw[e1];exact aaZ this
theorem uX (P:Pi m sz ps)(x:Int):(∃k j,k<ps.length/\j<sz/\x=cd ps k j)\/x∉ps.flatten:=by
 by_cases h:x∈ps.flatten
 ·left;obtain⟨p,hp,hx⟩:=List.mem_flatten.mp h;obtain⟨k,hk,rfl⟩:=abM.mp hp;obtain⟨j,hj,rfl⟩:=abM.mp hx;refine⟨k,j,hk,by rw[←P.g.len _ hp];exact hj,?_⟩;unfold cd;rw[(fW P hk).1,aav,aac hj];rfl
 ·exact .inr h
def kM (P:Pi m sz ps)(hs:Sr ps.length s){x:Int}(h:x∉ps.flatten):iA (lM ps s) x=x:=AX (by rw[Ey P hs];exact h)
def AZ (hs:Sr ps.length s)(hk:k<ps.length):0<=s.getD k 0/\s.getD k 0<ps.length:=by
 have A_:k<s.length:=by rw[hs.ln];exact hk
 rw[aav,aac A_];exact hs.inn _ (aaH A_)
theorem Ez (P:Pi m sz ps)(hs:Sr ps.length s){x:Int}(hx:0<=x/\x<m):0<=iA (lM ps s) x/\iA (lM ps s) x<m:=by
 rcases uX P x with⟨k,j,hk,hj,rfl⟩|h
 ·rw[mK P hs hk hj];have:=AZ hs hk;exact Pq P (by lia) hj
 ·rw[kM P hs h];exact hx
theorem KG (hs:Sr ps.length s)(ht:Sr ps.length t):Sr ps.length (av s t):=⟨by unfold av;rw[aab];exact ht.ln,λx hx=>by
 obtain⟨i,hi,rfl⟩:=aas.mp hx;have:=ht.inn i hi;exact AZ hs (by lia)⟩
theorem KI (P:Pi m sz ps)(hs:Sr ps.length s)(ht:Sr ps.length t):av (mv m (lM ps s)) (mv m (lM ps t))=mv m (lM ps (av s t)):=by
 unfold av mv;rw[aaq];refine aaB λx hx=>?_;have hx:=eT.mp hx;have hy:=Ez P ht hx;show ((au m).map _).getD _ 0=iA (lM ps (av s t)) x;have e:((au m).map (iA (lM ps s))).getD (iA (lM ps t) x).toNat 0=iA (lM ps s) (iA (lM ps t) x):=by
  rw[aav,aar,jZ (by lia)];show iA _ _=_;rw[abz hy.1]
 rw[e];rcases uX P x with⟨k,j,hk,hj,rfl⟩|h
 ·have tk:=AZ ht hk;rw[mK P ht hk hj,mK P hs (by lia) hj,mK P (KG hs ht) hk hj];have A_:k<t.length:=by rw[ht.ln];exact hk
  unfold av;rw[aav (l:=t.map _),aar,aav (l:=t),aac A_];rfl
 ·rw[kM P ht h,kM P hs h,kM P (KG hs ht) h]
theorem Vt (P:Pi m sz ps):mv m (lM ps (au ps.length))=au m:=by
 have hr:Sr ps.length _:=⟨bC _,λx hx=>eT.mp hx⟩
 conv=>rhs;rw[←aeh (au m)]
 refine aaB λx hx=>?_;rcases uX P x with⟨k,j,hk,hj,rfl⟩|h
 ·rw[mK P hr hk hj,aav,jZ hk];rfl
 ·exact kM P hr h
def KJ (q:List (Int×Int)):(mv m q).length=m:=by unfold mv;rw[aab,bC]
theorem Sk (P:Pi m sz ps)(hs:Sr ps.length s)(ht:Sr ps.length t)(e:av s t=au ps.length):cw m (mv m (lM ps s)):=by
 have c:=KI P hs ht;rw[e,Vt P] at c;refine (gW (Cs m) (λx hx=>?_) (by rw[KJ,bC];exact aao _)).symm;rw[←c] at hx;obtain⟨i,hi,rfl⟩:=aas.mp hx;obtain⟨y,hy,rfl⟩:=aas.mp hi;have:=Ez P ht (eT.mp hy);rw[aav,aac (by rw[KJ];lia)];exact aaH _
theorem Sn (P:Pi m sz ps){a b:Nat}(ha:a<ps.length)(hb:b<ps.length)(e:cd ps a 0=cd ps b 0):a=b:=by
 have z1:=P.z1;have pw:=ac4.mp (List.pairwise_flatten.mp P.nd).2;have ma:=Cw P ha (j:=0) (by lia);have mb:=Cw P hb (j:=0) (by lia);rw[(fW P ha).1] at ma;rw[(fW P hb).1,←e] at mb;rcases Nat.lt_trichotomy a b with h|h|h
 ·exact absurd rfl (pw a b ha hb h _ ma _ mb)
 ·exact h
 ·exact absurd rfl (pw b a hb ha h _ mb _ ma)
theorem So (P:Pi m sz ps)(hs:Sr ps.length s)(ht:Sr ps.length t)(e:mv m (lM ps s)=mv m (lM ps t)):s=t:=by
 have z1:=P.z1;refine afc (by rw[hs.ln,ht.ln]) λk h1 h2=>?_;have hk:k<ps.length:=by rw[←hs.ln];exact h1
 have c:=Pq P hk (j:=0) (by lia);have ee:=by
  exact (List.map_inj_left.mp e) _ (eT.mpr c)
 rw[mK P hs hk (by lia),mK P ht hk (by lia)] at ee;have a:=AZ hs hk;have b:=AZ ht hk;have:=Sn P (by lia) (by lia) ee;have e1:s.getD k 0=s[k]:=by rw[aav,aac h1];rfl
 have e2:t.getD k 0=t[k]:=by rw[aav,aac h2];rfl
 lia
structure Sg (K:Nat)(Q:List (List Int)):Prop where
 i:∀s∈Q,s.length=K/\∀x∈s,0<=x/\x<(K:Int)
 nd:Q.Nodup
 cl:∀s∈Q,∀t∈Q,av s t∈Q
 v:∀s∈Q,∃t∈Q,av s t=au K
 ln:1<=Q.length/\Q.length<=24
theorem uY (P:Pi m sz ps)(m1:1<=m)(m8:m<=8){Q:List (List Int)}(q:Sg ps.length Q):br [SU (Q.map λs=>mv m (lM ps s))]=.ok (.bl true)/\∀r:Rw,r.length=m->bH [SU (Q.map λs=>mv m (lM ps s)),ak r]=.ok (.bl true):=by
 have sr:∀s∈Q,Sr ps.length s:=λs hs=>⟨(q.i s hs).1,(q.i s hs).2⟩;have hs:Sf m _:=⟨m1,m8,λo ho=>by
  obtain⟨s,hs,rfl⟩:=aas.mp ho;obtain⟨t,ht,e⟩:=q.v s hs;exact Sk P (sr s hs) (sr t ht) e,by rw[aab];exact q.ln.1,by rw[aab];exact q.ln.2⟩
 have nd:=Ct q.nd λx hx y hy e=>So P (sr x hx) (sr y hy) e;have cl:F8 (Q.map λs=>mv m (lM ps s))=true:=by
  unfold F8;rw[aaJ];intro a ha;rw[aaJ];intro b hb;obtain⟨s,hs,rfl⟩:=aas.mp ha;obtain⟨t,ht,rfl⟩:=aas.mp hb;refine hJ ?_;rw[KI P (sr s hs) (sr t ht)];exact aaI (q.cl s hs t ht)
 obtain⟨t,e,ht⟩:=mI m8 hs.ne (by have:=hs.l2;lia) hs.o;rw[ht.mpr ⟨Cv nd,cl⟩] at e;obtain⟨K,c,h⟩:=yH hs (Cv nd) cl;exact⟨e,λr hr=>Es h hr⟩
end
noncomputable def Wm (K:Nat)(Q:List (List Int)):Bool:=(Q.all λs=>s.length==K&&(s.all λx=>decide (0<=x)&&decide (x<(K:Int)))&&(Q.all λt=>Q.any λu=>u==av s t)&&(Q.any λt=>av s t==au K))&&decide Q.Nodup&&decide (1<=Q.length)&&decide (Q.length<=24)
theorem KL {K:Nat}{Q:List (List Int)}(h:Wm K Q=true):Sg K Q:=by
 unfold Wm at h;simp only[aau,aaJ,decide_eq_true_iff,acV,beq_iff_eq] at h;obtain⟨⟨⟨a,b⟩,c⟩,d⟩:=h;exact⟨λs hs=>⟨(a s hs).1.1.1,λx hx=>(a s hs).1.1.2 x hx⟩,b,λs hs t ht=>by
  obtain⟨u,hu,e⟩:=(a s hs).1.2 t ht;exact e▸hu,λs hs=>(a s hs).2,c,d⟩
def KN:∀K,1<=K->K<=8->Wm K ((aa7 K).map (yJ K))=true
 |1,_,_=>by kernel_rfl
 |2,_,_=>by kernel_rfl
 |3,_,_=>by kernel_rfl
 |4,_,_=>by kernel_rfl
 |5,_,_=>by kernel_rfl
 |6,_,_=>by kernel_rfl
 |7,_,_=>by kernel_rfl
 |8,_,_=>by kernel_rfl
def Sq:∀K,1<=K->K<=4->Wm K (yK 5 (au K))=true
 |1,_,_=>by kernel_rfl
 |2,_,_=>by kernel_rfl
 |3,_,_=>by kernel_rfl
 |4,_,_=>by kernel_rfl
def Nz (m:Nat)(ps:List (List Int)):PU (Nw m ps)=SU (((aa7 ps.length).map (yJ ps.length)).map λs=>mv m (lM ps s)):=by
 rw[aaq];rfl
theorem A4 (l:List Int)(z:Nat):∀K,((aa7 K).map λj=>(l.drop (j*z)).take z).flatten=l.take (K*z)
 |0=>by simp
 |K+1=>by
  rw[List.range_succ,aaG,acp,A4 l z K,aag,acA,abe,aff,aa2,Nat.add_mul,Nat.one_mul,←List.take_add]
theorem NA {s:U}(h:rV s)(h1:1<=m)(h8:m<=8):∃(l:List Rw) (s':U),aQ [s,.int m]=.ok (SU l,s')/\Sf m l/\rV s':=by
 obtain⟨mO,s',e,ho,l1,l2,hs⟩:=Co h h1 h8;exact⟨mO,s',e,⟨h1,h8,ho,l1,l2⟩,hs⟩
section
variable {x0 x1 x2 x3 x4 x5 x6 x7 x8 x9 x10:Option U}
theorem KO (hs:Sf m ss):∃(k:Nat) (t:Bool),(∀ρ,yO (xw [none,some 4] (bB 0) cR (Jt (ae 1) (af (ae 0) ao)) [x0,x1,x2,x3,some (SU ss),x5,x6,x7,x8,x9,x10]) (ss.map ak)=.ok (ss.map λo=>.int (ss.count o:Nat))/\gc [.lst (ss.map λo=>.int (ss.count o:Nat))]=.ok (.int k)/\br [SU ss]=.ok (.bl t)/\
  (oO (gB (bb (L_ not) (eR 1 br (af (ae 4) ao)) (Hg (ae 6) (eR 1 dY (af (ae 4) ao))))) (bT (gC (.bl false))) cQ) [x0,x1,x2,x3,some (SU ss),x5,some (.bl ((k:Int)==1)),x7,x8,x9,ρ]=.nx [x0,x1,x2,x3,some (SU ss),x5,some (.bl ((k:Int)==1)),x7,x8,x9,ρ])/\(t=true->∃K c,Gi m ss K c):=by
 obtain⟨k,e1,hk⟩:=F_ hs.ne (by have:=hs.l2;lia);obtain⟨t,e2,ht⟩:=mI hs.n8 hs.ne (by have:=hs.l2;lia) hs.o;obtain⟨w,e3,hw⟩:=Ga hs;refine⟨k,t,λρ=>⟨?_,e1,e2,?_⟩,λz=>yH hs (ht.mp z).1 (ht.mp z).2⟩
 ·refine de λo ho=>?_;have c:Jt (ae 1) (af (ae 0) ao) [some (ak o),some (SU ss)]=.ok (.int (ss.count o:Nat),[some (ak o),some (SU ss)]):=by
   show (um (SU ss) (ak o)).bind _=_;rw[Ko];rfl
  simp only[Pzz,dG,Nat.reduceAdd,Nat.reduceSub,c]
 ·cases c:((k:Int)==1) with
  |true=>
   have Gq:=hk.mp (by have:=beq_iff_eq.mp c;lia);have:t=w:=by
    rw[abu,ht,hw Gq];exact⟨λz=>z.2,λz=>⟨Gq,z⟩⟩
   subst this;simp only[Pzz,dG,Nat.reduceAdd,Nat.reduceSub,e2,e3,OQ,beq_self_eq_true]
  |false=>
   have Gq:¬S6 ss:=λz=>by
    rw[hk.mpr z] at c;cases c
   have:t=false:=adQ.mpr λz=>Gq (ht.mp z).1;subst this;simp only[Pzz,dG,Nat.reduceAdd,Nat.reduceSub,e2,OQ,beq_self_eq_true]
theorem Gf {r:Rw}{t:Bool}(e:br [SU ss]=.ok (.bl t))(ht:t=true->∃K c,Gi m ss K c)(hr:r.length=m):(oO (Hd (gB (eR 1 br (af (ae 4) ao))) (zh (gB (eR 2 bH (af (ae 4) (af (ae 5) ao)))))) (bT (gC (.bl false))) cQ) [x0,x1,x2,x3,some (SU ss),some (ak r),x6,x7,x8,x9,x10]=.nx [x0,x1,x2,x3,some (SU ss),some (ak r),x6,x7,x8,x9,x10]:=by
 cases t with
 |false=>simp only[Pzz,dG,Nat.reduceAdd,Nat.reduceSub,e]
 |true=>
  obtain⟨K,c,h⟩:=ht rfl;have l:=Es h hr;simp only[Pzz,dG,Nat.reduceAdd,Nat.reduceSub,e,l,afp]
theorem KP {r:Rw}(hr:r.length=m){l:List (List Rw)}(h:∀x∈l,br [SU x]=.ok (.bl true)/\bH [SU x,ak r]=.ok (.bl true)):∃y,d6 (bB 10) pL (l.map SU) [x0,x1,x2,x3,x4,some (ak r),x6,x7,x8,x9,x10]=.nx [x0,x1,x2,x3,x4,some (ak r),x6,x7,x8,x9,y]:=by
 obtain⟨ρ',e,y,rfl⟩:=bF (us:=l.map SU) (sg:=bB 10) (s:=pL) (λ_ ρ=>∃y,ρ=[x0,x1,x2,x3,x4,some (ak r),x6,x7,x8,x9,y])
  (λi u ρ hu h00=>by
   obtain⟨y,hρ⟩:=h00;subst hρ;obtain⟨x,hx,rfl⟩:=aas.mp (aaZ hu);obtain⟨a,b⟩:=h x hx;refine⟨_,_,rfl,.inl (by
    unfold pL;simp only[abx,abw,Pzz,dG,Nat.reduceAdd,Nat.reduceSub,a,b,afp]),some (SU x),rfl⟩) (ρ:=[x0,x1,x2,x3,x4,some (ak r),x6,x7,x8,x9,x10]) ⟨x10,rfl⟩
 exact⟨y,e⟩
theorem KQ {o:Rw}(ho:cw m o)(m1:1<=m)(m8:m<=8){z:Nat}(z1:1<=z)(zm:z<=m):∃ps:List (List Int),Pi m z ps/\ps.length<=4/\Pi m 1 ((o.take z).map λx=>[x])/\(gq c_ (af (f6 (fB (af (gq s_ (af (gC (.int 4)) (af (bb f7 (ae 3) (ae 8)) ao))) ao)) [none,some 7,some 8] (bB 0) cR (lY ki (ae 1) (bY (bb d7 (ae 0) (ae 2))) (bY (bb cB (bb d7 (ae 0) (ae 2)) (ae 2))))) ao)) [x0,x1,x2,some (.int m),x4,x5,x6,some (ak o),some (.int z),x9,x10]=.ok (PU ps,[x0,x1,x2,some (.int m),x4,x5,x6,some (ak o),some (.int z),x9,x10]):=by
 have sz:aah=16777216:=rfl;have lo:=bV ho;have Zr:o.Nodup:=ho.symm.nodup (Cs m);obtain⟨K,hK⟩:∃K:Nat,K=min 4 (m / z):=⟨_,rfl⟩;have Kz:K*z<=m:=aaR (Nat.mul_le_mul_right z (show K<=m / z by lia)) (Nat.div_mul_le_self m z);have K1:1<=K:=by
  have:=Nat.div_pos zm (by lia);lia
 have jz:∀j,j<K->j*z+z<=m:=λj hj=>by
  have:=Nat.mul_le_mul_right z (show j+1<=K by lia);rw[Nat.add_mul,Nat.one_mul] at this;lia
 have on:∀x∈o,0<=x/\x<(m:Int):=jU ho;refine⟨(aa7 K).map λj=>(o.drop (j*z)).take z,⟨⟨by rw[aab,abd];exact K1,by rw[aab,abd];lia,by lia,λp hp=>?_,λp hp x hx=>?_⟩,by rw[A4];exact Zr.sublist (afX _ _),z1⟩,by rw[aab,abd];lia,⟨(KD (m:=m) (pl:=o.take z) (by lia) (by rw[aaE];lia) (by rw[aaE];lia) λx hx=>on x (abf hx)).1,?_,aao _⟩,?_⟩
 ·obtain⟨j,hj,rfl⟩:=aas.mp hp;have:=jz j (ad4.mp hj);rw[aaE,abb];lia
 ·obtain⟨j,hj,rfl⟩:=aas.mp hp;exact on x (acg (abf hx))
 ·have:((o.take z).map λx=>[x]).flatten=o.take z:=by
   generalize o.take z=l
   induction l with
   |nil=>rfl
   |cons a l ih=>rw[aag,abe,ih];rfl
  rw[this];exact Zr.sublist (afX _ _)
 ·have dv:f7 (.int m) (.int z)=.ok (.int ((m:Int) / z)):=by
   rw[tm,h9];unfold vn;have:(m:Int)<9:=by lia
   simp only[aau,acO,decide_eq_true_iff];lia
  have mn:(if ((m:Int) / z)<4 then ((m:Int) / z) else 4)=(K:Nat):=by
   have:((m / z:Nat):Int)=(m:Int) / z:=aee m z;rw[←this,hK];split<;>lia
  have el:=de (f:=xw [none,some 7,some 8] (bB 0) cR (lY ki (ae 1) (bY (bb d7 (ae 0) (ae 2))) (bY (bb cB (bb d7 (ae 0) (ae 2)) (ae 2)))) [x0,x1,x2,some (.int m),x4,x5,x6,some (ak o),some (.int z),x9,x10]) (c:=λj:Nat=>U.int j) (g:=λj=>PT ((o.drop (j*z)).take z)) (xs:=aa7 K) λj hj=>by
   have hj:=ad4.mp hj;have b:=jz j hj;have cm:jy (j:Int) z=true:=ph (by lia) (by lia);have cu:iD (o.map U.int) (some ((j:Int)*z)) (some ((j:Int)*z+z))=((o.drop (j*z)).take z).map U.int:=by
    have:=Ec (o.map U.int) (j*z) (j*z+z) (by lia) (by rw[aab];lia);rw[abU] at this;rw[adl,aeL,←this];congr 2
   simp only[Pzz,dG,Nat.reduceAdd,Nat.reduceSub,cm,ak,cu];rfl
  rw[←kG] at el;have ln:((aa7 K).map λj=>PT ((o.drop (j*z)).take z)).length<=aah:=by rw[aab,abd];lia
  simp only[Pzz,dG,Nat.reduceAdd,Nat.reduceSub,dv,mn,g9 K (by lia),el,ln];unfold PU;rw[aaq];rfl
end
theorem Vu {x2 x3 x4 x5 x6 x7 x8 x9 x10:Option U}:∃y2 y3 y4 y5 y6 y7 y8 y9 y10:Option U,yp [some (.scr (ns.map .int)),some (.int i),x2,x3,x4,x5,x6,x7,x8,x9,x10]=.nx [some (.scr (ns.map .int)),some (.int i),y2,y3,y4,y5,y6,y7,y8,y9,y10]:=by
 obtain⟨s0,e0,h0⟩:=JM (us:=[]) (u:=.scr (ns.map .int)) (ns:=ns) (k:=i) (.inl rfl) (by lia);obtain⟨t,s1,e1,t0,t1,h1⟩:=fV (m:=6) h0 (by decide) (by decide);obtain⟨m,hm⟩:∃m:Nat,1+t=m:=⟨(1+t).toNat,by lia⟩;have m1:1<=m:=by lia
 have m8:m<=8:=by lia
 obtain⟨ss,s2,e2,hs,h2⟩:=NA (m:=m) h1 m1 m8;obtain⟨r,s3,e3,lr,_,h3⟩:=RS (m:=m) h2 (by lia);have e3:eZ [s2,.int m]=.ok (ak r,s3):=e3;obtain⟨k,tc,f1,ht⟩:=KO hs (x0:=some (.scr (ns.map .int))) (x1:=some (.int i)) (x2:=some s3) (x3:=some (.int m)) (x5:=some (ak r)) (x6:=x6) (x7:=x7) (x8:=x8) (x9:=x9) (x10:=x10);obtain⟨a1,a2,a3,a4⟩:=f1 x10;have a5:=Gf (m:=m) a3 ht lr (x0:=some (.scr (ns.map .int))) (x1:=some (.int i)) (x2:=some s3) (x3:=some (.int m)) (x6:=some (.bl ((k:Int)==1))) (x7:=x7) (x8:=x8) (x9:=x9) (x10:=x10);obtain⟨o,s4,e4,ho,h4⟩:=ou (m:=m) h3 (by lia);have e4:bA [s3,.int m]=.ok (ak o,s4):=e4;obtain⟨z0,s5,e5,z00,z01,h5⟩:=fV (m:=m) h4 (by lia) (by lia);obtain⟨z,hz⟩:∃z:Nat,1+z0=z:=⟨(1+z0).toNat,by lia⟩;obtain⟨ps,P,p4,P1,e6⟩:=KQ ho m1 m8 (z:=z) (by lia) (by lia) (x0:=some (.scr (ns.map .int))) (x1:=some (.int i)) (x2:=some s5) (x4:=some (SU ss)) (x5:=some (ak r)) (x6:=some (.bl ((k:Int)==1))) (x9:=x9) (x10:=x10);have c1:=(KD (m:=m) (pl:=o.take z) (by lia) (by rw[aaE,bV ho];lia) (by rw[aaE];have:=bV ho;lia) λx hx=>jU ho x (abf hx)).2;have c2:=qM (m:=m) (by lia) P.g;have c3:=AV (m:=m) (by lia) P.g p4;have g1:=uY P1 m1 m8 (KL (KN _ P1.g.n1 P1.g.n8));have g2:=uY P m1 m8 (KL (KN _ P.g.n1 P.g.n8));have g3:=uY P m1 m8 (KL (Sq _ P.g.n1 p4));rw[Nz] at c1 c2;have c3:fJ [.int m,PU ps]=.ok (SU ((yK 5 (au ps.length)).map λs=>mv m (lM ps s))):=c3;obtain⟨L1,hL1⟩:∃L,L=((aa7 ((o.take z).map λx=>[x]).length).map (yJ ((o.take z).map λx=>[x]).length)).map λs=>mv m (lM ((o.take z).map λx=>[x]) s):=⟨_,rfl⟩;obtain⟨L2,hL2⟩:∃L,L=((aa7 ps.length).map (yJ ps.length)).map λs=>mv m (lM ps s):=⟨_,rfl⟩;obtain⟨L3,hL3⟩:∃L,L=(yK 5 (au ps.length)).map λs=>mv m (lM ps s):=⟨_,rfl⟩;rw[←hL1] at c1 g1;rw[←hL2] at c2 g2;rw[←hL3] at c3 g3;obtain⟨y10,e7⟩:=KP (m:=m) lr (l:=[L1,L2,L3]) (λx hx=>by
  simp only[aaw,ads,or_false] at hx;rcases hx with rfl|rfl|rfl
  ·exact⟨g1.1,g1.2 r lr⟩
  ·exact⟨g2.1,g2.2 r lr⟩
  ·exact⟨g3.1,g3.2 r lr⟩) (x0:=some (.scr (ns.map .int))) (x1:=some (.int i)) (x2:=some s5) (x3:=some (.int m)) (x4:=some (SU ss)) (x6:=some (.bl ((k:Int)==1))) (x7:=some (ak o)) (x8:=some (.int z)) (x9:=some (PU ps)) (x10:=x10)
 have e7:d6 (bB 10) pL [SU L1,SU L2,SU L3] [some (.scr (ns.map .int)),some (.int i),some s5,some (.int m),some (SU ss),some (ak r),some (.bl ((k:Int)==1)),some (ak o),some (.int z),some (PU ps),x10]=_:=e7;obtain⟨q,s6,e8,q0,q1,h6⟩:=fV (m:=2) h5 (by decide) (by decide);obtain⟨n,hn⟩:∃n:Nat,1+q=n:=⟨(1+q).toNat,by lia⟩;obtain⟨ys,s7,e9,ly,T,hy,hT,h7⟩:=kq (G:=JD) (js:=[none,some 2,some 3]) (sg:=bB 0) (ge:=m7 2 1 bA (af (ae 2) ao))
  (λx:U=>[some (.scr (ns.map .int)),some (.int i),some x,some (.int m),some (SU ss),some (ak r),some (.bl ((k:Int)==1)),some (ak o),some (.int z),some (PU ps),y10]) n (λys x=>∃T:List Rw,ys=T.map ak/\(∀os∈T,cw m os)/\rV x)
  (λdone u x hd h00=>by
   obtain⟨T,hr,hp,hs⟩:=h00;obtain⟨os,x',b1,b2,b3⟩:=ou (m:=m) hs (by lia);have b1:bA [x,.int m]=.ok (ak os,x'):=b1;refine⟨[some u,some x,some (.int m)],ak os,[some u,some x',some (.int m)],x',rfl,?_,rfl,T++[os],by rw[hr,aaG];rfl,?_,b3⟩
   ·simp only[Pzz,dG,Nat.reduceAdd,Nat.reduceSub,b1]
   ·intro y hy;rcases aaQ.mp hy with z|z
    ·exact hp y z
    ·rw[aaK.mp z];exact b2) (aP 0 n) [] s6 (by rw[bq];simp) ⟨[],rfl,(λx hx=>by cases hx),h6⟩
 rw[ac9] at hy;subst hy;rw[bq,aab] at ly;have Yp:=KA (T:=T) m1 m8 hT (by lia);have tl:iD (o.map U.int) none (some (z:Int))=(o.take z).map U.int:=by rw[adl];exact jj _ z
 have l3:(3:Nat)<=aah:=by decide
 have lT:(T.map ak).length<=aah:=by rw[aab];have:aah=16777216:=rfl;lia
 have lS:(ss.map λo=>U.int (ss.count o:Nat)).length<=aah:=by rw[aab];have:aah=16777216:=rfl;have:=hs.l2;lia
 have so:∀ρ,vq (SU ss) ρ=.ok (ss.map ak,ρ):=λρ=>rfl;have sl:ki (ak o) none (some (z:Int))=.ok (.tup ((o.take z).map U.int)):=by unfold ak;rw[IF,tl]
 have a0:∀(s:Ev->SR) (ρ ρ':Ev) (g:Ev->SR),g ρ=.nx ρ'->aH g s ρ=s ρ':=λs ρ ρ' g h=>by rw[HZ,h];rfl
 have k1:(aY 2 (eR 2 dX (af (ae 0) (af (ae 1) ao)))) [some (.scr (ns.map .int)),some (.int i),x2,x3,x4,x5,x6,x7,x8,x9,x10]=.nx [some (.scr (ns.map .int)),some (.int i),some s0,x3,x4,x5,x6,x7,x8,x9,x10]:=by
  simp only[Pzz,dG,Nat.reduceAdd,Nat.reduceSub,e0,abx,abw]
 have k2:(aY 3 (bb cB (gC (.int 1)) (m7 2 2 aG (af (gC (.int 6)) ao)))) [some (.scr (ns.map .int)),some (.int i),some s0,x3,x4,x5,x6,x7,x8,x9,x10]=.nx [some (.scr (ns.map .int)),some (.int i),some s1,some (.int m),x4,x5,x6,x7,x8,x9,x10]:=by
  simp only[Pzz,dG,Nat.reduceAdd,Nat.reduceSub,e1,hm,abx,abw]
 have k3:(aY 4 (m7 2 2 aQ (af (ae 3) ao))) [some (.scr (ns.map .int)),some (.int i),some s1,some (.int m),x4,x5,x6,x7,x8,x9,x10]=.nx [some (.scr (ns.map .int)),some (.int i),some s2,some (.int m),some (SU ss),x5,x6,x7,x8,x9,x10]:=by
  simp only[Pzz,dG,Nat.reduceAdd,Nat.reduceSub,e2,abx,abw]
 have k4:(aY 5 (m7 2 2 eZ (af (ae 3) ao))) [some (.scr (ns.map .int)),some (.int i),some s2,some (.int m),some (SU ss),x5,x6,x7,x8,x9,x10]=.nx [some (.scr (ns.map .int)),some (.int i),some s3,some (.int m),some (SU ss),some (ak r),x6,x7,x8,x9,x10]:=by
  simp only[Pzz,dG,Nat.reduceAdd,Nat.reduceSub,e3,abx,abw]
 have k5:(aY 6 (bb (mj id) (gq gc (af (f6 (fj (ae 4)) [none,some 4] (bB 0) cR (Jt (ae 1) (af (ae 0) ao))) ao)) (gC (.int 1)))) [some (.scr (ns.map .int)),some (.int i),some s3,some (.int m),some (SU ss),some (ak r),x6,x7,x8,x9,x10]=.nx [some (.scr (ns.map .int)),some (.int i),some s3,some (.int m),some (SU ss),some (ak r),some (.bl ((k:Int)==1)),x7,x8,x9,x10]:=by
  simp only[Pzz,dG,Nat.reduceAdd,Nat.reduceSub,so,a1,lS,a2,yw,id,abx,abw]
 have k6:(aY 7 (m7 2 2 bA (af (ae 3) ao))) [some (.scr (ns.map .int)),some (.int i),some s3,some (.int m),some (SU ss),some (ak r),some (.bl ((k:Int)==1)),x7,x8,x9,x10]=.nx [some (.scr (ns.map .int)),some (.int i),some s4,some (.int m),some (SU ss),some (ak r),some (.bl ((k:Int)==1)),some (ak o),x8,x9,x10]:=by
  simp only[Pzz,dG,Nat.reduceAdd,Nat.reduceSub,e4,abx,abw]
 have k7:(aY 8 (bb cB (gC (.int 1)) (m7 2 2 aG (af (ae 3) ao)))) [some (.scr (ns.map .int)),some (.int i),some s4,some (.int m),some (SU ss),some (ak r),some (.bl ((k:Int)==1)),some (ak o),x8,x9,x10]=.nx [some (.scr (ns.map .int)),some (.int i),some s5,some (.int m),some (SU ss),some (ak r),some (.bl ((k:Int)==1)),some (ak o),some (.int z),x9,x10]:=by
  simp only[Pzz,dG,Nat.reduceAdd,Nat.reduceSub,e5,hz,abx,abw]
 have k8:∀g:Ev->R (U×Ev),g [some (.scr (ns.map .int)),some (.int i),some s5,some (.int m),some (SU ss),some (ak r),some (.bl ((k:Int)==1)),some (ak o),some (.int z),x9,x10]=.ok (PU ps,[some (.scr (ns.map .int)),some (.int i),some s5,some (.int m),some (SU ss),some (ak r),some (.bl ((k:Int)==1)),some (ak o),some (.int z),x9,x10])->aY 9 g [some (.scr (ns.map .int)),some (.int i),some s5,some (.int m),some (SU ss),some (ak r),some (.bl ((k:Int)==1)),some (ak o),some (.int z),x9,x10]=.nx [some (.scr (ns.map .int)),some (.int i),some s5,some (.int m),some (SU ss),some (ak r),some (.bl ((k:Int)==1)),some (ak o),some (.int z),some (PU ps),x10]:=λg h=>by
  rw[Ie,h];rfl
 have k9:(fm (fj (dI (af (eR 2 Ao (af (ae 3) (af (lY ki (ae 7) cW (bY (ae 8))) ao))) (af (eR 2 eY (af (ae 3) (af (ae 9) ao))) (af (eR 2 fJ (af (ae 3) (af (ae 9) ao))) ao))))) (bB 10) pL) [some (.scr (ns.map .int)),some (.int i),some s5,some (.int m),some (SU ss),some (ak r),some (.bl ((k:Int)==1)),some (ak o),some (.int z),some (PU ps),x10]=.nx [some (.scr (ns.map .int)),some (.int i),some s5,some (.int m),some (SU ss),some (ak r),some (.bl ((k:Int)==1)),some (ak o),some (.int z),some (PU ps),y10]:=by
  simp only[Pzz,dG,Nat.reduceAdd,Nat.reduceSub,sl,c1,c2,c3,l3,e7,abx,abw]
 refine⟨some s7,some (.int m),some (SU ss),some (ak r),some (.bl ((k:Int)==1)),some (ak o),some (.int z),some (PU ps),y10,?_⟩;unfold yp;rw[a0 _ _ _ _ k1,a0 _ _ _ _ k2,a0 _ _ _ _ k3,a0 _ _ _ _ k4,a0 _ _ _ _ k5,a0 _ _ _ _ a4,a0 _ _ _ _ a5,a0 _ _ _ _ k6,a0 _ _ _ _ k7,a0 _ _ _ _ (k8 _ e6),a0 _ _ _ _ k9];simp only[Pzz,dG,Nat.reduceAdd,Nat.reduceSub,e8,hn,g9 n (by lia),e9,lT,Yp,afp,abx,abw]
theorem pure_law (ns:List Int)(hl:ns.length<=63):Aq [.scr (ns.map .int)]=.ok (.bl true):=by
 obtain⟨z,hz⟩:∃z:Nat,(if (if (3:Int)<(((ns.map U.int).length:Nat):Int) then 3 else (((ns.map U.int).length:Nat):Int))>1 then (if (3:Int)<(((ns.map U.int).length:Nat):Int) then 3 else (((ns.map U.int).length:Nat):Int)) else 1)=z:=⟨_,(abz (by split<;>(try split)<;>lia)).symm⟩;have zb:z<=1000:=by split at hz<;>(try split at hz)<;>lia
 obtain⟨ρ',e,a1,a2,a3,a4,a5,a6,a7,a8,a9,a10,rfl⟩:=bF (us:=aP 0 z) (sg:=bB 1) (s:=yp) (λ_ ρ=>∃a1 a2 a3 a4 a5 a6 a7 a8 a9 a10:Option U,ρ=[some (.scr (ns.map .int)),a1,a2,a3,a4,a5,a6,a7,a8,a9,a10])
  (λi u ρ hu h00=>by
   obtain⟨a1,a2,a3,a4,a5,a6,a7,a8,a9,a10,hr⟩:=h00;subst hr;have hi:i<z:=by
    rcases adJ i z with y|y
    ·exact y
    ·rw[aby.mpr (by rw[bq];exact y)] at hu;cases hu
   obtain rfl:u=.int i:=by
    rw[kG,aar,aej hi] at hu;cases hu;rfl
   obtain⟨b2,b3,b4,b5,b6,b7,b8,b9,b10,q⟩:=Vu (ns:=ns) (i:=i) (x2:=a2) (x3:=a3) (x4:=a4) (x5:=a5) (x6:=a6) (x7:=a7) (x8:=a8) (x9:=a9) (x10:=a10);exact⟨_,_,rfl,.inl q,_,_,_,_,_,_,_,_,_,_,rfl⟩)
  (ρ:=[some (.scr (ns.map .int)),none,none,none,none,none,none,none,none,none,none]) ⟨_,_,_,_,_,_,_,_,_,_,rfl⟩
 unfold Aq JE;simp only[Pzz,dG,Nat.reduceAdd,Nat.reduceSub,hz,g9 z (by lia),e]
def walk {q:acC}{d:DefRec}{K:Params->aai}(VB:d.params.defaults=[])(hY:∀(w:abq) (h:acP),YP w h->(K w.params).In h)(F:∀(w:abq) (mg:Str->Option aak) (fa:aaM) (h:acP),(K w.params).In h->h.Ns abc mg->mg d.name=some (.ref fa)->
   ∃fd:adA,(∀(s:aaD) (u:aak),BindsTo s fd ⟨[u],[]⟩ [("script",u)])/\∀base:acP,(K w.params).In base->base.Ns abc mg->iP PySem.Challenge.rw_hushcards_k17_whole_closed_ones_stay.prog w (K w.params) mg base xi 23 fa fd ["script"] (zp (K w.params))) :
  PySem.W.WalkO q loose XP YP PySem.Challenge.rw_hushcards_k17_whole_closed_ones_stay.row.toRowW d [] (λf vs=>PySem.call f vs):=
 L2.walk_of (l:=PySem.Challenge.rw_hushcards_k17_whole_closed_ones_stay) (n:=63) (k:=23) (x:="script") (CX:=λ_=>xi) (sp:=λw=>zp (K w.params)) rfl (by decide) VB ⟨rfl,by decide,by decide⟩ hY F (λ_ _ a ns hl hO hS=>⟨a,ns,rfl,QO hO hS,hl,λ_=>rfl⟩) λ_ _ _ _ _ z=>z
end Hc
open PySem PySem.W PyProof.Rows
set_option maxRecDepth 100000 in
set_option maxHeartbeats 0 in
theorem PySem.Challenge.cw_hushcards_k17_whole_closed_ones_stay_holds : PySem.Challenge.rw_hushcards_k17_whole_closed_ones_stay.Holds := by
 w_on
 refine PySem.W.holds_law (by decide+kernel) λYq=>?_;refine' PySem.W.holds_open Hc.left (PySem.W.Hook.of _) (PySem.W.Hook.keeps _) (XP:=PySem.W.XL Hc.vw [])
  (λs e=>PySem.W.xl_of s (Bool.and_eq_true_iff.mp e).1) PySem.W.XL.keeps ?d ?t ?k
  (λs e=>PySem.W.recFacts_of (Bool.and_eq_true_iff.mp e).2) ?w Yq ?g ⟨rfl,rfl,rfl,rfl,rfl,by decide+kernel⟩ ?hw ?hc
 case d=>rfl
 case t=>rfl
 case k=>rfl
 case w=>rfl
 case g=>decide+kernel
 case hw=>w_witness2
 show PySem.W.WalkO Hc.vw [] (PySem.W.XL Hc.vw []) (PySem.W.InK Hc.Kf) _ _ _ _
 k_fill
 refine Hc.walk rfl (λw h Y=>Y) ?F
 case F=>
  intro w mg fa h KX G VC;refine' Hc.all_mk KX G VC ?Q ?_ ?_ ?_ ?_ ?_ ?_ ?_ ?_ ?_ ?_ ?_ ?_ ?_ ?_ ?_ ?_ ?p_ ?K3 ?K4 Hc.pure_law
  (case p_=>k_is)
  (case K3=>k_exc)
  (case K4=>kts_exm)
  (case Q=>constructor<;>exact .mk (by k_is) (by k_is) (by k_is) (by k_is))
  all_goals first|k_is|exact .mk (by k_is) (by k_is) (by k_is) (by k_is)|skip