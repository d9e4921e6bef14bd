import PyProof.Rows.All
import Wide.All
import OpenK.AllK
import Wide.FinOn
import Lean
import PyProof.EqAt
import PyProof.EqKinds
import PyProof.TupleCall
import PyProof.NeKinds
import PyProof.TupleKey
import PyProof.DictRoadsH
import PyProof.Rows.SetFrom
import PyProof.WalksMore
import PyProof.SetRoads
import PyProof.ListMulRoad
import PyProof.FactsAll.subtypes_4
import PyProof.Rows.ListMulArg
import PyProof.ZipIter
import KE.RegKTryMore
import KE.RegKIsAll
import PyProof.DictItems
import PyProof.DictValues
import PyProof.DictWalks
import PyProof.FactsAll.dict_itemiterator
import PyProof.Rows.SortShell
import PyProof.Rows.SortWalk
import KE.KSortTup
import KE.KDictList
import PyProof.AutoListH
import PyProof.SumWalk
import PyProof.WalkInts
import PyProof.WalksEnum
import PyProof.EnumMake
import KE.KItemsList
import PyProof.AttrMissHeap
import PyProof.TupleIter
import PySem.Challenge.RW_hushcards_k57_whole_reckoning_with_pairs
abbrev hJ:=@decide_eq_true
abbrev hV:=@decide_eq_false
abbrev hZ.{u}:=@if_neg.{u}
abbrev h_.{u}:=@if_pos.{u}
set_option Elab.async false
set_option linter.all false
set_option compiler.extract_closed false
set_option genSizeOf false
set_option bootstrap.genMatcherCode false
set_option maxRecDepth 100000
set_option maxHeartbeats 4000000
open Option renaming some->J,none->L
open Bool renaming false->M,true->Z
open PySem renaming wpAny_bind->Ã,wpAny_bind->t,wpAny_pure->Â,Value->Ì,Value->d,sizeLine->Å,Shared->À,Addr->Ý,Addr->I,starEach->Î,wpAny->Á,model->Ä,wpAny_call_entry->û,wpAny_callSpecial?_slot->ę,wpAny_holding->õ,wpAny_setField_rec->đ,Around->Ð,mainGlobals->ê,wpAny_field->ï,wpAny_dictEntries->ğ,bootBuiltins->Ĉ,cLine->Ò,wpAny_mono->ý,mem_of_lookup->Ĵ,foldedSetIterable->ĭ,wpAny_newObj_type->Į,Expr->Æ,sysModules->Ă,wpAny_seqItems->Ġ,wpAny_attempt->Ě,wpAny_dictEpoch->į,sizeLine_eq->Ĕ,assignEach->Č,compareOp->ă,attributeBase->Ħ,Program->ó,wpAny_typeNameOfWhole_itemiter->Ε,Heap->É,wpAny_Call_Name_kw->Œ,wpAny_isInstance->ň,wpAny_typeNameOfWhole_keyiter->Ζ,wpAny_typeNameOfWhole_valiter->Η,swapsWith->Ē,Stmt->Ë,backTo->ä,eval->Í,Paired->è,IsPair->ë,wpAny_passesOwn->œ,wpAny_specialOf->Ŕ,wpAny_rule->İ,wpAny_setField->ŕ,World->â,wpAny_notOrdered_dict->Θ,codeAny_builtin->Ť,wpAny_truthy_bool->ų,binaryOp->ě,behindInMarks->Ŗ,wpAny_collect_seq->Ŵ,isSubtype_stop->ť,wpAny_fieldsOf->Ŧ,FuncData->ħ,Keyword->ĕ,tupleKind_room_in1->Ι,wpAny_isOneOf_itemiter->ύ,wpAny_pyIter_list->Κ,wpAny_pyIter_slot->Λ,wpAny_isOneOf_valiter->ώ,wpAny_updateSeq_pair->Ϗ,bindArgs->ĵ,plainId_quiet->ŵ,call_meets->ŗ,IsItemIter->Ř,wpAny_execs_nil->Μ,keywordEach->ŧ,Scope->þ,firstArgMember->Ν,PassesOwn->ř,seqIndex?->Ś,wpAny_Call_method->ϐ,codeAny_mono->Ξ,wpAny_of_eq->Ο,NameKind->Ũ,getItem->ś
open List renaming mem_cons_self->Ï,map_cons->Ç,length_map->Ê,mem_cons_of_mem->Ö,getElem?_eq_getElem->á,mem_cons->Ø,getElem?_eq_some_iff->é,length_cons->Ù,length_append->ã,sum_cons->Û,mem_map->Ú,mem_singleton->Ą,size_toArray->å,getElem?_map->ç,map_congr_left->ö,map_append->ð,mem_map_of_mem->ÿ,mem_append_right->ĉ,all_eq_true->ì,getElem?_set_ne->ē,mem_of_getElem?->Ċ,nodup_cons->ø,replicate->ù,map_map->ñ,mem_append->ı,take_succ_eq_append_getElem->ŀ,pairwise_cons->Ė,mem_append_left->Ł,drop_eq_getElem_cons->Ķ,zipWith->Ā,length_set->ġ,pairwise_singleton->ķ,append_nil->Ĝ,zipWith_cons_cons->ĸ,append_assoc->Ĩ,nodup_append->Ĳ,getElem?_set_self->ŉ,length_singleton->Ŋ,getElem_mem->ĩ,range->ā,length_nil->ł,lookup_cons->Ŷ,nodup_nil->Ģ,mem_nil_iff->ϑ,take_length->Ĺ,length_zipWith->ŋ,find?_cons->Ŝ,length_take->ŝ,getElem?_append_left->ŷ,all_cons->ĺ,getElem?_cons_succ->Ρ,length_range->Ş,getD_eq_getElem?_getD->ϭ,drop_length->ş,getElem?_eq_none->Ÿ,mem_range->Ź,getElem?_eq_none_iff->adG,not_mem_nil->Τ,mem_flatMap->ũ,length_replicate->ϒ,nil_append->Υ,getElem?_zipWith->ϓ,getElem?_append_right->Ϯ,foldl_cons->ź,ext_getElem?->Φ,pairwise_map->Χ,flatMap_cons->Ψ,map_nil->ϔ,cons_append->ϕ,any_eq_true->Ω,eq_nil_of_length_eq_zero->ae1,filterMap_cons->ϖ,length->γ,replicate_succ->afh,getElem?_range->ϗ,zip_cons_cons->Ϙ,foldl_append->ϯ,of_mem_zip->ϙ,forIn_cons->ϰ
open PySem.Heap renaming get?_push_of_some->Ó,get?_push_size->Ü,lt_size->Ô,get?_update_self->Ō,size_push->Ī,SameBut->Ļ
open PySem.W renaming Frag->È,mg_none_of->ģ,fnOf->č,nsIn->Ď,findIn->ī,openEnds->ō,keepIn->Ń,fencedOpening->δ,mg_of->Ū,codeIn->Ż,topFrom->ε
open Nat renaming le_refl->Ñ,ne_of_lt->Þ,lt_of_lt_of_le->ď,ne_of_gt->ò,le_trans->ą,lt_irrefl->ĳ,zero_le->ė,le_add_right->Ϛ,gcd->ú,lt_succ_self->ζ,lt_succ_of_lt->ϛ,le_of_lt->Š,gcd_pos_of_pos_right->ϱ,lt_of_le_of_lt->η,zero_add->ż,add_assoc->θ
open Bool renaming and_eq_true->ß,false_ne_true->í,eq_iff_iff->ļ,or_eq_false_iff->Ž,or_eq_true->ž,eq_false_iff->ϲ,false_eq_true->ϳ
open PySem.PassesOwn renaming never->ô
open Option.some renaming inj->Đ
open Int renaming mul_assoc->Ę,toNat_natCast->ĝ,mul_ediv_cancel_left->ū,le_refl->Ľ,emod_lt_of_pos->Ŭ,mul_le_mul_of_nonneg_right->Ϝ,emod_nonneg->ŭ,natCast_dvd_natCast->ϝ,mul_le_mul->ſ,natCast_ediv->ι,pos_of_mul_pos_right->ϴ
open Array renaming length_toList->Ğ,getElem?_toList->Α,getElem?_eq_getElem->Ů,getElem?_eq_none->Ϟ,perm_iff_toList_perm->ϵ
open PySem.F renaming plainAttrs_list->ń,slot_dict_valueiterator_next->μ,slot_dict_itemiterator_next->ν,slot_dict_keyiterator_next->ξ,slot_zip_next->Ŏ,slot_tuple_iterator_next->ο,slot_list_extend->π,type_list_extend->ρ,slot_dict_get->ς,args_tuple_add_2->ϟ,slot_list_append->Ϡ,type_list_append->ϡ,entry_tuple_add->Ϣ,args_dict_get_3->ϣ,plainAttrs_dict->Ϥ,args_dict_valueiterator_next_1->϶,slot_tuple_add->ϥ,entry_dict_get->Ϧ,entry_dict_valueiterator_next->Ϸ,args_dict_itemiterator_next_1->ϸ,args_dict_keyiterator_next_1->Ϲ,entry_dict_itemiterator_next->Ϻ,entry_dict_keyiterator_next->ϻ,slot_dict_itemiterator_iter->ae0,args_tuple_iterator_next_1->ae5,entry_tuple_iterator_next->aff,slot_dict_values->afy
open PyProof.Rows renaming callWith_type1->š,wpS_bind->î,arrOf->Õ,SortSt->à,wpS_pure->Ć,IntsAre->ü,pendingOf->Ĥ,Keyed->æ,kindOf->ć,envOfC->ċ,wpS_forRange->ů,reverseSlice'->Β,evalArgs_none->afl,SortKind->ŏ,AllBare->Ņ,failedOf->Ű,KeyOrd->ņ
open Option renaming map_eq_some_iff->Ţ,isSome_map->σ
open PySem.W.Fast renaming te14082659384304107361->τ,te14364793385576792824->υ,te10274390034422433532->χ,te4187177175401517315->ψ
open PySem.Heap.SameBut renaming update->ţ
open List.Perm renaming refl->ľ
open PyProof.Rows.KeyOrd renaming kle_refl->Ő,kle_trans->ű,kle_of_klt->ω
open PySem.Calls renaming callWith_builtin->Γ,spliced_cons->ϊ,Name_function_global->afk,call_function_entry->afr
open False renaming elim->ĥ
open PySem.Obj renaming data_mapFields->Ų,mapSeq->Ŀ,isFreed_of_fields->ϧ,cls_mapFields->Ϩ
open PySem.Builtin.Dict renaming showsAll->Δ
open PySem.Builtin.SmallTypes renaming nextOf->ϋ
open PySem.SeqAt renaming EqAt->Ĭ,RcNeAt->ϩ
open PySem.Paired renaming length->ő
open PySem.Builtin.Tuple renaming tupleHashOf->Ϫ
open PySem.Builtin.Dict_items renaming ownedTupleFields->aeg,ownsTuple->ae6
open PySem.Builtin.List renaming listTooLong->ϫ
open PySem.SeqAt.EqAt renaming same->ό,of_refs->Ϭ
open Prod renaming ext->Ň
open PySem PySem.Spec PyProof.Rows
noncomputable section
variable {a b it f C fa uI uO i1 i2 a1 a2 TQ:I}{P prog:ó}{w:â}{h h':É}{t' i j n m z kt ep:Nat}{ch fp L':List I}{x qual:Str}{N ps loose:List Str}{Mqq:Model}{A:I->Prop}{E Q:d->À->Prop}{s:À}{pins:List (I×Obj)}{K:È}{st:Ë}{c:Int}{tg iter elt:Æ}{pos' tp:Pos}{body:List Ë}{l:Bool}{op:CmpOp}{ns:List Int}{kw:List (Str×d)}{env:Env}{mg:Str->Option d}{fd:ħ}{scope:þ}{ys:Array d}{aH:List d}{T:String}{q:d}{XP:(Str->Option d)->É->Prop}{YP:â->É->Prop}{js:List (Option Nat)}{qM elts:List Æ}{ss eW:List (List Int)}{ds:Array DictEntry}{S:List Int->Prop}
def zyy {a b:Prop}(x:a)(y:b):a∧b:=⟨x,y⟩
namespace L2
noncomputable def cT (s:Ë):Arguments:=match s with
 | .FunctionDef _ a _ _ _ _ _ _ _ _=>a
 |_=>{posonlyargs:=[],args:=[],vararg:=L,kwonlyargs:=[],kw_defaults:=[],kwarg:=L,defaults:=[]}
noncomputable def bf (s:Ë):List Ë:=match s with
 | .FunctionDef _ _ b _ _ _ _ _ _ _=>b
 |_=>[]
noncomputable def ak (s:Ë):þ:=match s with
 | .FunctionDef _ _ _ _ _ _ sc _ _ _=>sc
 |_=>{kind:=.function,names:=[],isGenerator:=M,isCoroutine:=M}
noncomputable def jv (s:Ë)(j:Nat):Ë:=match s with
 | .ClassDef _ _ _ body _ _ _ _ _ _ _=>body.getD j (.Pass ⟨0,0,0,0⟩)
 |_=>.Pass ⟨0,0,0,0⟩
end L2
namespace Hc
open L2
noncomputable def top (i:Nat):Ë:=PySem.Challenge.pw_hushcards_k57_whole_reckoning_with_pairs.main.body.getD i (.Pass ⟨0,0,0,0⟩)
noncomputable abbrev hS (s:String)(n:Nat):d:=.str (Str.ofString s) n
abbrev hE (P:Params)(s:String)(n:Nat)(v:d):DictEntry:=⟨PyData.keyHash P (Str.ofString s),hS s n,v⟩
noncomputable abbrev hD (c:d)(l:List DictEntry)(n:Nat):Obj:=⟨c,L,.dict l.toArray n,#[]⟩
noncomputable abbrev hX (c:d)(l:List d):Obj:=⟨c,L,.fields l.toArray,#[]⟩
abbrev hC (n q:String)(a:Nat)(l k:Int)(r r1:Nat)(v1 v2:d)(r2:Nat)(m:Int)(m':Nat):Obj:=hX (.type "code") [hS n a,hS q (a+1),hS "/claim/cut.py" (a+2),.int l 0,.int k 0,.int 0 0,.int 0 0,.int 3 0,.ref r,.bool Z,.int 181 0,.ref r1,.none,v1,v2,.ref r2,.int m 0,.int l 0,hS "/claim/cut.py" m']
abbrev hF (n q:String)(s:Ë)(kV ke pm:d)(an:Option I)(cd ct:d):Obj:=⟨.type "function",L,.func (č n q (cT s) (bf s) (ak s) .none kV ke pm an cd ct),#[]⟩
abbrev hc (n:String)(a:Nat)(l k:Int)(r m:Nat):Obj:=hC n n a l k r (r+1) (.ref (r+2)) (.ref (r+3)) (r+4) m (m+1)
abbrev hf (n:String)(i:Nat)(m:d)(c:Nat):Obj:=hF n n (top i) .none .none m L (.ref c) .none
abbrev XO:d:=hS "hushcards.fractions" 280
abbrev hM1:d:=hS "hushcards.orders" 324
abbrev XQ:d:=hS "hushcards.shuffles" 332
abbrev Nb:d:=hS "hushcards.plans" 385
abbrev GO:d:=hS "hushcards.gates" 537
abbrev XR:d:=hS "hushcards.quiet" 661
abbrev hM6:d:=hS "hushcards.right" 734
abbrev JK:d:=hS "law_hushcards_k57_whole_reckoning_with_pairs" 767
def Kf (P:Params):È:=
 (nat_lit 2,hD .none [] 0) ::
 (nat_lit 3,hD (.type "dict") [hE P "__name__" 165 (hS "law_hushcards_k57_whole_reckoning_with_pairs" 767),hE P "__doc__" 166 .none,hE P "__package__" 167 .none,hE P "__loader__" 168 (.builtin "__main__.__loader__#opaque"),hE P "__spec__" 169 .none,hE P "__annotations__" 170 (.ref 6),hE P "__builtins__" 171 (.ref 4),hE P "__file__" 173 (hS "/claim/cut.py" 172),hE P "__cached__" 174 .none,hE P "CardError" 206 (.ref 24),hE P "NoPlan" 222 (.ref 37),hE P "NoWay" 247 (.ref 56),hE P "NoEnd" 263 (.ref 68),hE P "TooMany" 279 (.ref 80),hE P "greatest_divisor" 290 (.ref 89),hE P "ratio" 299 (.ref 96),hE P "plus" 307 (.ref 103),hE P "times" 315 (.ref 110),hE P "over" 323 (.ref 117),hE P "cards_at" 331 (.ref 122),hE P "MOST_PILES_MIXED" 335 (.int 4 334),hE P "counted" 344 (.ref 129),hE P "spread" 358 (.ref 136),hE P "exchanged" 372 (.ref 143),hE P "arrangements" 378 (.ref 148),hE P "pile_mix" 384 (.ref 153),hE P "MOST_PLANS" 388 (.int 60 387),hE P "MOST_WITHIN" 390 (.int 12 389),hE P "plans_within" 396 (.ref 158),hE P "levels_of" 405 (.ref 165),hE P "plans_in" 411 (.ref 170),hE P "Scene" 446 (.ref 187),hE P "Round" 475 (.ref 208),hE P "chance_of" 482 (.ref 219),hE P "behind_orders" 490 (.ref 226),hE P "behind_look" 496 (.ref 231),hE P "scenes_behind" 503 (.ref 238),hE P "walk_once" 515 (.ref 245),hE P "round_of" 524 (.ref 252),hE P "results_of" 530 (.ref 257),hE P "walked" 536 (.ref 262),hE P "with_more" 544 (.ref 267),hE P "tells_all_places" 550 (.ref 272),hE P "is_too_great" 557 (.ref 279),hE P "followed" 567 (.ref 286),hE P "pair_at" 574 (.ref 293),hE P "turned" 581 (.ref 300),hE P "whole_end" 587 (.ref 305),hE P "mixed_and_seen" 596 (.ref 312),hE P "turning" 602 (.ref 317),hE P "choosing" 611 (.ref 324),hE P "negated" 621 (.ref 331),hE P "oned" 633 (.ref 338),hE P "anded" 647 (.ref 345),hE P "copied" 660 (.ref 352),hE P "View" 693 (.ref 369),hE P "view_of" 705 (.ref 380),hE P "told_apart" 713 (.ref 387),hE P "first_unlike" 719 (.ref 392),hE P "quiet_but" 725 (.ref 397),hE P "quiet" 733 (.ref 404),hE P "first_wrong" 749 (.ref 411),hE P "judged" 760 (.ref 418),hE P "chances" 766 (.ref 423),hE P "_law_cell_at" 776 (.ref 430),hE P "_law_state" 785 (.ref 437),hE P "_law_take" 795 (.ref 444),hE P "_law_pair" 802 (.ref 451),hE P "_law_with_pairs" 808 (.ref 456),hE P "_law_numbers" 814 (.ref 461),hE P "_law_all_bits" 820 (.ref 466),hE P "_law_ended" 828 (.ref 473),hE P "_law_right" 837 (.ref 480),hE P "_law_two" 843 (.ref 485),hE P "_law_twice" 849 (.ref 490),hE P "law" 855 (.ref 495)] 76) ::
 (nat_lit 23,hD (.type "dict") [hE P "__module__" 196 (hS "hushcards.errors" 187),hE P "__firstlineno__" 200 (.int 2 199),hE P "__static_attributes__" 201 (.ref 22),hE P "__weakref__" 203 (.ref 25),hE P "__doc__" 204 .none] 3) ::
 (nat_lit 24,⟨.type "type",L,.cls {name:="CardError",bases:=[.type "ValueError"],mro:=[.ref 24,.type "ValueError",.type "Exception",.type "BaseException",.type "object"],ns:=23,qualname:="CardError",subclasses:=[.ref 37,.ref 56,.ref 68,.ref 80]},#[J (.ref 15),L,J (hS "CardError" 189),J (hS "CardError" 197),J (.builtin "ValueError.__new__"),J (.bool Z)]⟩) ::
 (nat_lit 36,hD (.type "dict") [hE P "__module__" 214 (hS "hushcards.errors" 187),hE P "__firstlineno__" 218 (.int 4 217),hE P "__static_attributes__" 219 (.ref 35),hE P "__doc__" 220 .none] 2) ::
 (nat_lit 37,⟨.type "type",L,.cls {name:="NoPlan",bases:=[.ref 24],mro:=[.ref 37,.ref 24,.type "ValueError",.type "Exception",.type "BaseException",.type "object"],ns:=36,qualname:="NoPlan"},#[J (.ref 28),L,J (hS "NoPlan" 207),J (hS "NoPlan" 215),J (.builtin "ValueError.__new__"),J (.bool Z)]⟩) ::
 (nat_lit 52,hC "__init__" "NoWay.__init__" 235 8 2 47 48 (.ref 49) (.ref 50) 51 240 241) ::
 (nat_lit 53,hF "__init__" "NoWay.__init__" (jv (top 3) 0) .none .none (hS "hushcards.errors" 187) L (.ref 52) .none) ::
 (nat_lit 55,hD (.type "dict") [hE P "__module__" 230 (hS "hushcards.errors" 187),hE P "__firstlineno__" 234 (.int 6 233),hE P "__init__" 242 (.ref 53),hE P "__static_attributes__" 244 (.ref 54),hE P "__doc__" 245 .none] 2) ::
 (nat_lit 56,⟨.type "type",L,.cls {name:="NoWay",bases:=[.ref 24],mro:=[.ref 56,.ref 24,.type "ValueError",.type "Exception",.type "BaseException",.type "object"],ns:=55,qualname:="NoWay"},#[J (.ref 40),L,J (hS "NoWay" 223),J (hS "NoWay" 231),J (.builtin "ValueError.__new__"),J (.bool Z)]⟩) ::
 (nat_lit 67,hD (.type "dict") [hE P "__module__" 255 (hS "hushcards.errors" 187),hE P "__firstlineno__" 259 (.int 11 258),hE P "__static_attributes__" 260 (.ref 66),hE P "__doc__" 261 .none] 2) ::
 (nat_lit 68,⟨.type "type",L,.cls {name:="NoEnd",bases:=[.ref 24],mro:=[.ref 68,.ref 24,.type "ValueError",.type "Exception",.type "BaseException",.type "object"],ns:=67,qualname:="NoEnd"},#[J (.ref 59),L,J (hS "NoEnd" 248),J (hS "NoEnd" 256),J (.builtin "ValueError.__new__"),J (.bool Z)]⟩) ::
 (nat_lit 79,hD (.type "dict") [hE P "__module__" 271 (hS "hushcards.errors" 187),hE P "__firstlineno__" 275 (.int 13 274),hE P "__static_attributes__" 276 (.ref 78),hE P "__doc__" 277 .none] 2) ::
 (nat_lit 80,⟨.type "type",L,.cls {name:="TooMany",bases:=[.ref 24],mro:=[.ref 80,.ref 24,.type "ValueError",.type "Exception",.type "BaseException",.type "object"],ns:=79,qualname:="TooMany"},#[J (.ref 71),L,J (hS "TooMany" 264),J (hS "TooMany" 272),J (.builtin "ValueError.__new__"),J (.bool Z)]⟩) ::
 (nat_lit 88,hc "greatest_divisor" 282 16 2 83 288) ::
 (nat_lit 89,hf "greatest_divisor" 7 XO 88) ::
 (nat_lit 95,hc "ratio" 291 24 2 90 297) ::
 (nat_lit 96,hf "ratio" 8 XO 95) ::
 (nat_lit 102,hc "plus" 300 29 2 97 305) ::
 (nat_lit 103,hf "plus" 9 XO 102) ::
 (nat_lit 109,hc "times" 308 31 2 104 313) ::
 (nat_lit 110,hf "times" 10 XO 109) ::
 (nat_lit 116,hc "over" 316 33 2 111 321) ::
 (nat_lit 117,hf "over" 11 XO 116) ::
 (nat_lit 121,hC "cards_at" "cards_at" 326 36 2 118 119 .none .none 120 329 330) ::
 (nat_lit 122,hf "cards_at" 13 hM1 121) ::
 (nat_lit 128,hc "counted" 336 40 1 123 342) ::
 (nat_lit 129,hf "counted" 16 XQ 128) ::
 (nat_lit 135,hc "spread" 345 45 2 130 356) ::
 (nat_lit 136,hf "spread" 17 XQ 135) ::
 (nat_lit 142,hc "exchanged" 359 52 3 137 370) ::
 (nat_lit 143,hf "exchanged" 18 XQ 142) ::
 (nat_lit 147,hC "arrangements" "arrangements" 373 58 1 144 145 .none .none 146 376 377) ::
 (nat_lit 148,hf "arrangements" 19 XQ 147) ::
 (nat_lit 152,hC "pile_mix" "pile_mix" 379 66 2 149 150 .none .none 151 382 383) ::
 (nat_lit 153,hf "pile_mix" 20 XQ 152) ::
 (nat_lit 157,hC "plans_within" "plans_within" 391 73 1 154 155 .none .none 156 394 395) ::
 (nat_lit 158,hf "plans_within" 24 Nb 157) ::
 (nat_lit 164,hc "levels_of" 397 81 1 159 403) ::
 (nat_lit 165,hf "levels_of" 25 Nb 164) ::
 (nat_lit 169,hC "plans_in" "plans_in" 406 88 1 166 167 .none .none 168 409 410) ::
 (nat_lit 170,hf "plans_in" 26 Nb 169) ::
 (nat_lit 183,hC "__init__" "Scene.__init__" 424 92 5 178 179 (.ref 180) (.ref 181) 182 432 433) ::
 (nat_lit 184,hF "__init__" "Scene.__init__" (jv (top 27) 0) .none .none (hS "hushcards.plans" 385) L (.ref 183) .none) ::
 (nat_lit 186,hD (.type "dict") [hE P "__module__" 419 (hS "hushcards.plans" 385),hE P "__firstlineno__" 423 (.int 90 422),hE P "__init__" 434 (.ref 184),hE P "__static_attributes__" 439 (.ref 185),hE P "__dict__" 441 (.ref 188),hE P "__weakref__" 443 (.ref 189),hE P "__doc__" 444 .none] 4) ::
 (nat_lit 187,⟨.type "type",L,.cls {name:="Scene",bases:=[.type "object"],mro:=[.ref 187,.type "object"],ns:=186,qualname:="Scene"},#[L,L,J (hS "Scene" 412),J (hS "Scene" 420),J (.builtin "object.__new__"),J (.bool Z)]⟩) ::
 (nat_lit 204,hC "__init__" "Round.__init__" 459 99 1 199 200 (.ref 201) (.ref 202) 203 463 464) ::
 (nat_lit 205,hF "__init__" "Round.__init__" (jv (top 28) 0) .none .none (hS "hushcards.plans" 385) L (.ref 204) .none) ::
 (nat_lit 207,hD (.type "dict") [hE P "__module__" 454 (hS "hushcards.plans" 385),hE P "__firstlineno__" 458 (.int 97 457),hE P "__init__" 465 (.ref 205),hE P "__static_attributes__" 468 (.ref 206),hE P "__dict__" 470 (.ref 209),hE P "__weakref__" 472 (.ref 210),hE P "__doc__" 473 .none] 4) ::
 (nat_lit 208,⟨.type "type",L,.cls {name:="Round",bases:=[.type "object"],mro:=[.ref 208,.type "object"],ns:=207,qualname:="Round"},#[L,L,J (hS "Round" 447),J (hS "Round" 455),J (.builtin "object.__new__"),J (.bool Z)]⟩) ::
 (nat_lit 218,hc "chance_of" 476 102 1 213 480) ::
 (nat_lit 219,hf "chance_of" 29 Nb 218) ::
 (nat_lit 225,hc "behind_orders" 483 104 2 220 488) ::
 (nat_lit 226,hf "behind_orders" 30 Nb 225) ::
 (nat_lit 230,hC "behind_look" "behind_look" 491 106 1 227 228 .none .none 229 494 495) ::
 (nat_lit 231,hf "behind_look" 31 Nb 230) ::
 (nat_lit 237,hc "scenes_behind" 497 118 1 232 501) ::
 (nat_lit 238,hf "scenes_behind" 32 Nb 237) ::
 (nat_lit 244,hc "walk_once" 504 126 2 239 513) ::
 (nat_lit 245,hf "walk_once" 33 Nb 244) ::
 (nat_lit 251,hc "round_of" 516 137 2 246 522) ::
 (nat_lit 252,hf "round_of" 34 Nb 251) ::
 (nat_lit 256,hC "results_of" "results_of" 525 142 1 253 254 .none .none 255 528 529) ::
 (nat_lit 257,hf "results_of" 35 Nb 256) ::
 (nat_lit 261,hC "walked" "walked" 531 149 2 258 259 .none .none 260 534 535) ::
 (nat_lit 262,hf "walked" 36 Nb 261) ::
 (nat_lit 266,hC "with_more" "with_more" 539 154 2 263 264 .none .none 265 542 543) ::
 (nat_lit 267,hf "with_more" 38 GO 266) ::
 (nat_lit 271,hC "tells_all_places" "tells_all_places" 545 162 2 268 269 .none .none 270 548 549) ::
 (nat_lit 272,hf "tells_all_places" 39 GO 271) ::
 (nat_lit 278,hc "is_too_great" 551 167 1 273 555) ::
 (nat_lit 279,hf "is_too_great" 40 GO 278) ::
 (nat_lit 285,hc "followed" 558 169 3 280 565) ::
 (nat_lit 286,hf "followed" 41 GO 285) ::
 (nat_lit 292,hc "pair_at" 568 176 1 287 572) ::
 (nat_lit 293,hf "pair_at" 42 GO 292) ::
 (nat_lit 299,hc "turned" 575 178 1 294 579) ::
 (nat_lit 300,hf "turned" 43 GO 299) ::
 (nat_lit 304,hC "whole_end" "whole_end" 582 180 2 301 302 .none .none 303 585 586) ::
 (nat_lit 305,hf "whole_end" 44 GO 304) ::
 (nat_lit 311,hc "mixed_and_seen" 588 185 3 306 594) ::
 (nat_lit 312,hf "mixed_and_seen" 45 GO 311) ::
 (nat_lit 316,hC "turning" "turning" 597 187 2 313 314 .none .none 315 600 601) ::
 (nat_lit 317,hf "turning" 46 GO 316) ::
 (nat_lit 323,hc "choosing" 603 189 3 318 609) ::
 (nat_lit 324,hf "choosing" 47 GO 323) ::
 (nat_lit 330,hc "negated" 612 191 2 325 619) ::
 (nat_lit 331,hf "negated" 48 GO 330) ::
 (nat_lit 337,hc "oned" 622 197 3 332 631) ::
 (nat_lit 338,hf "oned" 49 GO 337) ::
 (nat_lit 344,hc "anded" 634 202 4 339 645) ::
 (nat_lit 345,hf "anded" 50 GO 344) ::
 (nat_lit 351,hc "copied" 648 208 4 346 658) ::
 (nat_lit 352,hf "copied" 51 GO 351) ::
 (nat_lit 365,hC "__init__" "View.__init__" 675 216 3 360 361 (.ref 362) (.ref 363) 364 681 682) ::
 (nat_lit 366,hF "__init__" "View.__init__" (jv (top 53) 0) .none .none (hS "hushcards.quiet" 661) L (.ref 365) .none) ::
 (nat_lit 368,hD (.type "dict") [hE P "__module__" 670 (hS "hushcards.quiet" 661),hE P "__firstlineno__" 674 (.int 214 673),hE P "__init__" 683 (.ref 366),hE P "__static_attributes__" 686 (.ref 367),hE P "__dict__" 688 (.ref 370),hE P "__weakref__" 690 (.ref 371),hE P "__doc__" 691 .none] 4) ::
 (nat_lit 369,⟨.type "type",L,.cls {name:="View",bases:=[.type "object"],mro:=[.ref 369,.type "object"],ns:=368,qualname:="View"},#[L,L,J (hS "View" 663),J (hS "View" 671),J (.builtin "object.__new__"),J (.bool Z)]⟩) ::
 (nat_lit 379,hc "view_of" 694 219 2 374 703) ::
 (nat_lit 380,hf "view_of" 54 XR 379) ::
 (nat_lit 386,hc "told_apart" 706 226 2 381 711) ::
 (nat_lit 387,hf "told_apart" 55 XR 386) ::
 (nat_lit 391,hC "first_unlike" "first_unlike" 714 228 2 388 389 .none .none 390 717 718) ::
 (nat_lit 392,hf "first_unlike" 56 XR 391) ::
 (nat_lit 396,hC "quiet_but" "quiet_but" 720 233 3 393 394 .none .none 395 723 724) ::
 (nat_lit 397,hf "quiet_but" 57 XR 396) ::
 (nat_lit 403,hc "quiet" 726 240 2 398 731) ::
 (nat_lit 404,hf "quiet" 58 XR 403) ::
 (nat_lit 410,hc "first_wrong" 736 243 3 405 747) ::
 (nat_lit 411,hf "first_wrong" 60 hM6 410) ::
 (nat_lit 417,hc "judged" 750 249 2 412 758) ::
 (nat_lit 418,hf "judged" 61 hM6 417) ::
 (nat_lit 422,hC "chances" "chances" 761 255 2 419 420 .none .none 421 764 765) ::
 (nat_lit 423,hf "chances" 62 hM6 422) ::
 (nat_lit 429,hc "_law_cell_at" 769 262 2 424 774) ::
 (nat_lit 430,hf "_law_cell_at" 64 JK 429) ::
 (nat_lit 436,hc "_law_state" 777 266 2 431 783) ::
 (nat_lit 437,hf "_law_state" 65 JK 436) ::
 (nat_lit 443,hc "_law_take" 786 271 2 438 793) ::
 (nat_lit 444,hf "_law_take" 66 JK 443) ::
 (nat_lit 450,hc "_law_pair" 796 280 1 445 800) ::
 (nat_lit 451,hf "_law_pair" 67 JK 450) ::
 (nat_lit 455,hC "_law_with_pairs" "_law_with_pairs" 803 282 4 452 453 .none .none 454 806 807) ::
 (nat_lit 456,hf "_law_with_pairs" 68 JK 455) ::
 (nat_lit 460,hC "_law_numbers" "_law_numbers" 809 288 3 457 458 .none .none 459 812 813) ::
 (nat_lit 461,hf "_law_numbers" 69 JK 460) ::
 (nat_lit 465,hC "_law_all_bits" "_law_all_bits" 815 291 1 462 463 .none .none 464 818 819) ::
 (nat_lit 466,hf "_law_all_bits" 70 JK 465) ::
 (nat_lit 472,hc "_law_ended" 821 296 2 467 826) ::
 (nat_lit 473,hf "_law_ended" 71 JK 472) ::
 (nat_lit 479,hc "_law_right" 829 298 3 474 835) ::
 (nat_lit 480,hf "_law_right" 72 JK 479) ::
 (nat_lit 484,hC "_law_two" "_law_two" 838 300 3 481 482 .none .none 483 841 842) ::
 (nat_lit 485,hf "_law_two" 73 JK 484) ::
 (nat_lit 489,hC "_law_twice" "_law_twice" 844 312 3 486 487 .none .none 488 847 848) ::
 (nat_lit 490,hf "_law_twice" 74 JK 489) ::
 (nat_lit 494,hC "law" "law" 850 321 1 491 492 .none .none 493 853 854) ::
 (nat_lit 495,hf "law" 75 JK 494)::[]
def vw:ó:={PySem.Challenge.pw_hushcards_k57_whole_reckoning_with_pairs with main:={PySem.Challenge.pw_hushcards_k57_whole_reckoning_with_pairs.main with body:=([1,2,3,4,5,7,8,9,10,11,13,15,16,17,18,19,20,22,23,24,25,26,27,28,29,30,31,32,33,34,35,36,38,39,40,41,42,43,44,45,46,47,48,49,50,51,53,54,55,56,57,58,60,61,62,64,65,66,67,68,69,70,71,72,73,74,75]:List Nat).map top}}
def hk:PySem.W.Hook:=PySem.W.kHook Kf [2,3,23,24,36,37,52,53,55,56,67,68,79,80,88,89,95,96,102,103,109,110,116,117,121,122,128,129,135,136,142,143,147,148,152,153,157,158,164,165,169,170,183,184,186,187,204,205,207,208,218,219,225,226,230,231,237,238,244,245,251,252,256,257,261,262,266,267,271,272,278,279,285,286,292,293,299,300,304,305,311,312,316,317,323,324,330,331,337,338,344,345,351,352,365,366,368,369,379,380,386,387,391,392,396,397,403,404,410,411,417,418,422,423,429,430,436,437,443,444,450,451,455,456,460,461,465,466,472,473,479,480,484,485,489,490,494,495] (λ_=>by kernel_rfl)
noncomputable abbrev Se:=PySem.Challenge.rw_hushcards_k57_whole_reckoning_with_pairs.row
open PySem.W PyProof.Rows PySem.Calls in
abbrev hL (s:À):=(PySem.W.openSeen vw [] (PySem.importedModules Se.prog.main.body) (λs=>PySem.W.xlAt vw [] s&&PySem.W.recOk (PySem.W.RowW.records Se.toRowW) s) Z s,hk.obs s)
def XS {X:Option À}{α:Type}{f:À->α}{v:α}(e:X.map f=J v):∃s,X=J s/\f s=v:=Ţ.mp e
open PySem.W PyProof.Rows PySem.Calls in
def l1 (w:â):(ō treeTable Se.prog w 7128).map (λs=>((hL s).1.1,(hL s).1.2.1,(hL s).1.2.2.1))=J (expectedOf vw,bltViewBooted,Z):=by
 unfold hL ō δ ε;rw[τ,υ,χ,ψ]
 kernel_rfl
open PySem.W PyProof.Rows PySem.Calls in
def l2 (w:â):(ō treeTable Se.prog w 7128).map (λs=>((hL s).1.2.2.2.1,(hL s).1.2.2.2.2.1,(hL s).1.2.2.2.2.2.2.1,(hL s).1.2.2.2.2.2.2.2.2))=J (Z,pinGoodD (drecsOf vw),plainGoodD vw [],clsGoodW vw []):=by
 unfold hL ō δ ε;rw[τ,υ,χ,ψ]
 kernel_rfl
open PySem.W PyProof.Rows PySem.Calls in
def l3 (w:â):(ō treeTable Se.prog w 7128).map (λs=>(hL s).1.2.2.2.2.2.1)=J (plainGoodE vw (looseW vw [])):=by
 unfold hL ō δ ε;rw[τ,υ,χ,ψ]
 kernel_rfl
open PySem.W PyProof.Rows PySem.Calls in
def l4 (w:â):(ō treeTable Se.prog w 7128).map (λs=>((hL s).1.2.2.2.2.2.2.2.1,(hL s).2))=J (wideGood vw,hk.val w):=by
 unfold hL ō δ ε;rw[τ,υ,χ,ψ]
 kernel_rfl
theorem left:PySem.W.LeftO Se.prog vw [] (λs=>PySem.W.xlAt vw [] s&&PySem.W.recOk (PySem.W.RowW.records Se.toRowW) s) hk.obs hk.val 7128:=λw=>by
 obtain⟨s,e,a⟩:=XS (l1 w);have b:=l2 w;have c:=l3 w;have d:=l4 w;rw[e] at b c d |-;have b:=Đ b;have d:=Đ d;simp only[Prod.mk.injEq] at a b d;exact congrArg J (Ň (Ň a.1 (Ň a.2.1 (Ň a.2.2 (Ň b.1 (Ň b.2.1 (Ň (Đ c) (Ň b.2.2.1 (Ň d.1 b.2.2.2)))))))) d.2)
end Hc
namespace L2
noncomputable abbrev Key:=Sum Int Str
noncomputable def xB:Key->d->Bool
 | .inl k,v=>Value.isInt k v
 | .inr x,v=>Value.isStrOf x v
noncomputable def Zs (w:â):Key->Int
 | .inl k=>hashInt k
 | .inr x=>hashStr w x
theorem cG:∀{k:Key} {v:d},xB k v=Z->(∃i t,k=Sum.inl i/\v=Value.int i t)\/(∃x t,k=Sum.inr x/\v=Value.str x t)
 | .inl i,v,h=>by
  obtain⟨t,e⟩:=Value.isInt_shape h;exact .inl ⟨i,t,rfl,e⟩
 | .inr x,v,h=>by
  obtain⟨t,e⟩:=Value.isStrOf_shape h;exact .inr ⟨x,t,rfl,e⟩
def Hk (i:Int)(t:Tok):xB (.inl i) (.int i t)=Z:=by simp[xB,Value.isInt]
def Hl (x:Str)(t:Tok):xB (.inr x) (.str x t)=Z:=by simp[xB,Value.isStrOf]
theorem SN (a b:Int):decide ((Sum.inl a:Key)=Sum.inl b)=(a==b):=by
 lia
def SO (a b:Str):decide ((Sum.inr a:Key)=Sum.inr b)=decide (a=b):=by
 lia
def SQ (a:Int)(b:Str):decide ((Sum.inl a:Key)=Sum.inr b)=M:=hV (λq=>nomatch q)
def SS (a:Str)(b:Int):decide ((Sum.inr a:Key)=Sum.inl b)=M:=hV (λq=>nomatch q)
def c_ (prog:ó)(w:â):PySem.KeyKind prog w Key where
 is:=xB
 hash:=Zs w
 inj:=λv a b ha hb=>by
  rcases cG ha with⟨i,t,rfl,rfl⟩|⟨x,t,rfl,rfl⟩
  ·rcases cG hb with⟨j,u,rfl,e⟩|⟨y,u,rfl,e⟩
   ·lia
   lia
  ·rcases cG hb with⟨j,u,rfl,e⟩|⟨y,u,rfl,e⟩
   ·lia
   lia
 byValue:=λk v h=>by
  rcases cG h with⟨i,t,rfl,rfl⟩|⟨x,t,rfl,rfl⟩<;>rfl
 pyHash:=λhv h=>by
  rcases cG hv with⟨i,t,rfl,rfl⟩|⟨x,t,rfl,rfl⟩
  ·exact wpAny_pyHash_int h
  ·exact wpAny_pyHash_str h
 eqBool:=λhu hv h=>by
  rcases cG hu with⟨i,t,rfl,rfl⟩|⟨x,t,rfl,rfl⟩
  ·rcases cG hv with⟨j,u,rfl,rfl⟩|⟨y,u,rfl,rfl⟩
   ·rw[SN] at h;exact wpAny_eqBool_int h
   ·rw[SQ] at h;exact SeqAt.EqAt.int_str i t y u _ _ _ _ h
  ·rcases cG hv with⟨j,u,rfl,rfl⟩|⟨y,u,rfl,rfl⟩
   ·rw[SS] at h;exact SeqAt.EqAt.str_int x t j u _ _ _ _ h
   ·rw[SO] at h;exact wpAny_eqBool_str h
 «strs»:=λk x t v h=>by
  rcases cG h with⟨i,u,rfl,e⟩|⟨y,u,rfl,e⟩
  ·lia
  ·injection e with e1 _
   subst e1;cases v<;>rfl
def AK (prog:ó)(w:â)(i:Int)(t:Tok):(c_ prog w).is (.inl i) (.int i t)=Z:=Hk i t
def AM (prog:ó)(w:â)(x:Str)(t:Tok):(c_ prog w).is (.inr x) (.str x t)=Z:=Hl x t
end L2
namespace L2
inductive V where
 |non|bl (b:Bool)|int (i:Int)|str (x:Str)|byt (b:Array UInt8)|flt (b:UInt64)|ref (a:I)|ty (n:String)
 deriving DecidableEq
def aX:V->d->Prop
 | .non,u=>u=Value.none
 | .bl b,u=>u=Value.bool b
 | .int i,u=>∃t,u=Value.int i t
 | .str x,u=>∃t,u=Value.str x t
 | .byt b,u=>∃t,u=Value.bytes b t
 | .flt b,u=>∃t,u=Value.float b t
 | .ref a,u=>u=Value.ref a
 | .ty n,u=>u=Value.type n
abbrev aZ:List V->List d->Prop:=è aX
def aZ.length {xs:List V}{us:List d}(r:aZ xs us):xs.length=us.length:=ő r
theorem aZ.get:∀{xs:List V} {us:List d} {i:Nat} {x:V},aZ xs us->xs[i]? = J x->∃u,us[i]? = J u/\aX x u
 |_,_,_,_,.nil,e=>by simp at e
 |_,_,0,_,.cons r _,e=>by grind
 |_,_,i+1,x,.cons _ t,e=>by
  obtain⟨u,h1,h2⟩:=aZ.get t (by simpa using e);exact⟨u,by simpa using h1,h2⟩
theorem aZ.set {x:V}{u:d}(r:aX x u):∀{xs:List V} {us:List d} (i:Nat),aZ xs us->aZ (xs.set i x) (us.set i u)
 |_,_,_,.nil=>.nil
 |_,_,0,.cons _ t=>.cons r t
 |_,_,i+1,.cons q t=>.cons q (aZ.set r i t)
theorem aZ.append:∀{xs ys:List V} {us ws:List d},aZ xs us->aZ ys ws->aZ (xs++ys) (us++ws)
 |_,_,_,_,.nil,s=>s
 |_,_,_,_,.cons r t,s=>.cons r (aZ.append t s)
def lW:Option V->Option d->Prop
 |some v,J u=>aX v u
 |none,L=>True
 |_,_=>False
def KV {κ:Type}:List (κ×V)->List (κ×d)->Prop:=è λ(p:κ×V) (q:κ×d)=>p.1=q.1/\aX p.2 q.2
noncomputable def kV:Key->V
 | .inl i=>.int i
 | .inr x=>.str x
inductive HO where
 |lst (xs:List V)
 |tup (xs:List V)
 |dK (aV:List (Key×V))|dT (aV:List (List Key×V))
 |set (S:Int->Bool) (n:Nat)
 |ins (C dx:I) (fs:List (Str×V))
 |own (x:I)
 |xd (fs:List (Str×V))
 |met (f x:I)
 |rng (lo hi:Int)
 |frz (o:Obj) (u:HO)
 |tbl (ps:Array d)
 |ext (φ:É->Prop)
noncomputable abbrev Hp:=I->Option HO
noncomputable def bc (H:Hp)(a:I)(o:HO):Hp:=λb=>if b=a then J o else H b
def aI {H:Hp}{o:HO}:bc H a o a=J o:=by unfold bc;rw[h_ rfl]
def aG {H:Hp}{o:HO}(h:b≠a):bc H a o b=H b:=by unfold bc;rw[hZ h]
theorem Fe {H:Hp}{o u:HO}:bc (bc H a o) a u=bc H a u:=by
 grind[bc]
theorem VY {H:Hp}{o u:HO}(h:H a=J o)(h':H b=J u)(d:o≠u):a≠b:=by
 lia
theorem bM {H:Hp}{o:HO}(h:H a=J o)(h':H b=L):a≠b:=by
 lia
section
variable (P:ó)(w:â)
def c8 (H:Hp)(h:É)(a:I):HO->Prop
 | .lst xs=>xs.length<=Å/\∃(aH:List d) (n:Nat),aZ xs aH/\h.get? a=J {cls:=.type "list",data:=.seq aH.toArray n}
 | .tup xs=>xs.length<=Å/\∃aH:List d,aZ xs aH/\IsTup h a aH.toArray/\∃n,h.get? a=J {cls:=.type "tuple",data:=.seq aH.toArray n}
 | .dK aV=>aV.length<=Å/\(a==Ă)=M/\∃vs,KV aV vs/\h.DictOf (c_ P w) a vs
 | .dT aV=>aV.length<=Å/\(a==Ă)=M/\∃xs:List (List Key×I×d),
   è (λ(p:List Key×V) (q:List Key×I×d)=>p.1=q.1/\H q.2.1=J (.tup (p.1.map kV))/\aX p.2 q.2.2) aV xs/\
   ∃o es ep,h.get? a=J o/\o.ExactDict/\o.data=.dict es ep/\es.toList=xs.map (entryOfKey (tupleKind (c_ P w)))/\(xs.map (·.1)).Nodup
 | .set S n=>h.SetOf (intKind P w) a S n
 | .ins C dx fs=>H dx=J (.own a)/\fs.length<=1000/\dx≠a/\h.get? a=J (PySem.W.instObj C dx)/\
   ∃mA,h.Ns1 dx mA/\(∀f,lW (fs.lookup f) (mA f))/\PySem.Within mA (fs.map (·.1))
 | .own _=>∃o,h.get? a=J o
 | .xd fs=>∃mA,h.Ns1 a mA/\∀f,lW (fs.lookup f) (mA f)
 | .rng lo hi=>∃t u v,h.get? a=J {cls:=.type "range",data:=.fields #[.int lo t,.int hi u,.int 1 v]}
 | .frz o u=>h.get? a=J o/\c8 H h a u
 | .tbl ps=>h.get? a=J {cls:=.none,data:=.fields ps}
 | .met f x=>h.get? a=J (PySem.W.methodObj (.ref f) (.ref x))
 | .ext φ=>φ h/\(∃o,h.get? a=J o)/\∀h1 h2:É,φ h1->(∀o,h1.get? a=J o->h2.get? a=J o)->φ h2
def jZ (H:Hp)(h:É):Prop:=∀a o,H a=J o->c8 P w H h a o
end
section
variable {H H':Hp}{o:HO}
theorem c8.lt (x:c8 P w H h a o):a<h.objs.size:=by
 cases o with
 |lst xs=>obtain⟨_,_,_,_,e⟩:=x;exact Ô e
 |tup xs=>obtain⟨_,_,_,p,_⟩:=x;exact p.lt
 |dK aV=>obtain⟨_,_,_,_,o,_,_,e,_⟩:=x;exact Ô e
 |dT aV=>obtain⟨_,_,_,_,o,_,_,e,_⟩:=x;exact Ô e
 |set S n=>obtain⟨o,_,_,_,e,_⟩:=x;exact Ô e
 |ins C dx fs=>obtain⟨_,_,_,e,_⟩:=x;exact Ô e
 |own y=>obtain⟨_,e⟩:=x;exact Ô e
 |xd fs=>obtain⟨_,⟨_,_,_,e,_⟩,_⟩:=x;exact Ô e
 |rng lo hi=>obtain⟨_,_,_,e⟩:=x;exact Ô e
 |frz ob u=>obtain⟨e,_⟩:=x;exact Ô e
 |tbl ps=>exact Ô (show h.get? a=J _ from x)
 |met f y=>exact Ô (show h.get? a=J _ from x)
 |ext φ=>obtain⟨_,⟨_,e⟩,_⟩:=x;exact Ô e
theorem Paired.mapP {α β:Type}{F G:α->β->Prop}:∀{l₁:List α} {l₂:List β},è F l₁ l₂->(∀a b,F a b->G a b)->è G l₁ l₂
 |_,_,.nil,_=>.nil
 |_,_,.cons r t,f=>.cons (f _ _ r) (Paired.mapP t f)
theorem c8.stay (x:c8 P w H h a o)(k:∀b u,(b=a\/H b=J (.own a))->h.get? b=J u->h'.get? b=J u)
  (ho:∀b,H b=J (.own a)->H' b=J (.own a)) (ht:∀b xs,H b=J (.tup xs)->H' b=J (.tup xs)):c8 P w H' h' a o:=by
 induction o with
 |lst xs=>obtain⟨z,aH,n,r,e⟩:=x;exact⟨z,aH,n,r,k _ _ (.inl rfl) e⟩
 |tup xs=>obtain⟨z,aH,r,⟨ob,e,c⟩,n2,e2⟩:=x;exact⟨z,aH,r,⟨ob,k _ _ (.inl rfl) e,c⟩,n2,k _ _ (.inl rfl) e2⟩
 |dK aV=>obtain⟨z,y,vs,r,ob,es,ep,e,c⟩:=x;exact⟨z,y,vs,r,ob,es,ep,k _ _ (.inl rfl) e,c⟩
 |dT aV=>
  obtain⟨z,y,xs,r,ob,es,ep,e,c⟩:=x;exact⟨z,y,xs,Paired.mapP r λp q z=>⟨z.1,ht _ _ z.2.1,z.2.2⟩,ob,es,ep,k _ _ (.inl rfl) e,c⟩
 |set S n=>obtain⟨ob,es,ep,t,e,c⟩:=x;exact⟨ob,es,ep,t,k _ _ (.inl rfl) e,c⟩
 |ins C dx fs=>
  obtain⟨d,z,ne,e,mA,⟨od,es,ep,e2,c⟩,r⟩:=x;exact⟨ho _ d,z,ne,k _ _ (.inl rfl) e,mA,⟨od,es,ep,k _ _ (.inr d) e2,c⟩,r⟩
 |own y=>obtain⟨ob,e⟩:=x;exact⟨ob,k _ _ (.inl rfl) e⟩
 |xd fs=>obtain⟨mA,⟨od,es,ep,e,c⟩,r⟩:=x;exact⟨mA,⟨od,es,ep,k _ _ (.inl rfl) e,c⟩,r⟩
 |rng lo hi=>obtain⟨t,u,v,e⟩:=x;exact⟨t,u,v,k _ _ (.inl rfl) e⟩
 |frz ob u ih=>obtain⟨e,q⟩:=x;exact⟨k _ _ (.inl rfl) e,ih q⟩
 |tbl ps=>
  have e:=x;exact k a _ (.inl rfl) e
 |met f y=>
  have e:=x;exact k a _ (.inl rfl) e
 |ext φ=>obtain⟨p,⟨o,e⟩,st⟩:=x;exact⟨st _ _ p λo q=>k _ _ (.inl rfl) q,⟨o,k _ _ (.inl rfl) e⟩,st⟩
def jZ.lt (x:jZ P w H h)(e:H a=J o):a<h.objs.size:=(x a o e).lt
theorem jZ.fresh (x:jZ P w H h)(e:h.objs.size<=a):H a=L:=by
 cases q:H a with
 |none=>rfl
 |some u=>exact absurd (ď (x.lt q) e) (ĳ _)
def jZ.kept (x:jZ P w H h)(k:∀b u,h.get? b=J u->h'.get? b=J u):jZ P w H h':=λa o e=>
 (x a o e).stay (λb u _ q=>k b u q) (λ_ q=>q) λ_ _ q=>q
theorem jZ.laid (x:jZ P w H h)(k:∀b u,h.get? b=J u->h'.get? b=J u)(hp:h.objs.size<=a)(new:c8 P w (bc H a o) h' a o):jZ P w (bc H a o) h':=λb u e=>by
 have hn:=x.fresh hp;by_cases hb:b=a
 ·simp_all[aI]
 ·rw[aG hb] at e;exact (x b u e).stay (λc v _ q=>k c v q) (λc q=>by rw[aG (bM q hn)];exact q) λc xs q=>by rw[aG (bM q hn)];exact q
end
def Rd (H:Hp)(a:I)(u:HO):Prop:=H a=J u\/∃o,H a=J (.frz o u)
theorem Rd.ok {H:Hp}{u:HO}(r:Rd H a u)(x:jZ P w H h):c8 P w H h a u:=by
 rcases r with r|⟨o,r⟩
 ·exact x a u r
 ·obtain⟨_,q⟩:=x a _ r;exact q
def Vw:Option HO->Prop
 |some (.lst _)=>True
 |some (.dK _)=>True
 |some (.dT _)=>True
 |some (.set _ _)=>True
 |some (.ins _ _ _)=>True
 |some (.ext _)=>True
 |_=>False
section
variable {H:Hp}{x e:I}{o':HO}
theorem jZ.write (ok:jZ P w H h)(mu:Vw (H x))(he:e=x\/H e=J (.own x))(k:∀b u,b≠e->h.get? b=J u->h'.get? b=J u)(VO:∃u,h'.get? e=J u)
  (new:c8 P w (bc H x o') h' x o'):jZ P w (bc H x o') h':=λb u q=>by
 have Ym:∀c y,H c=J (.own y)->c≠x:=λc y r z=>by subst z;rw[r] at mu;exact mu
 have aaO:∀c xs,H c=J (.tup xs)->c≠x:=λc xs r z=>by subst z;rw[r] at mu;exact mu
 by_cases hb:b=x
 ·simp_all[aI]
 ·rw[aG hb] at q;by_cases hbe:b=e
  ·have q':H b=J (.own x):=by
    lia
   rw[q] at q';cases q';obtain⟨v,hv⟩:=VO;exact⟨v,by lia⟩
  ·refine (ok b u q).stay (λc v hc r=>k c v ?_ r) (λc r=>by rw[aG (Ym c b r)];exact r) λc xs r=>by rw[aG (aaO c xs r)];exact r
   grind
end
structure Un (fs ex:List I)(H H':Hp)(h h':É):Prop where
 keep:∀b o,h.get? b=J o->H b=L->b∉fs->b∉ex->h'.get? b=J o
 slot:∀b o,h.get? b=J o->H b=L->b∈fs->b∉ex->∃sl,h'.get? b=J {o with slots:=sl}
 free:∀b o,h.get? b=J o->H b=L->b∉ex->H' b=L
 there:∀b o,h.get? b=J o->b∉ex->∃o',h'.get? b=J o'
 tups:∀b xs,H b=J (.tup xs)->H' b=J (.tup xs)
 frzs:∀b o u,H b=J (.frz o u)->H' b=J (.frz o u)
 tbls:∀b ps,H b=J (.tbl ps)->∃more,H' b=J (.tbl (ps++more))
section
variable {fs fs' ex ex':List I}{H H1 H2:Hp}{h1 h2:É}{x e:I}{o:HO}
def Un.any (u:Un fs ex H H1 h h1){ob:Obj}(q:h.get? b=J ob)(n:H b=L)(hx:b∉ex):∃sl,h1.get? b=J {ob with slots:=sl}:=by
 by_cases hb:b∈fs
 ·exact u.slot b ob q n hb hx
 ·exact⟨ob.slots,u.keep b ob q n hb hx⟩
def Un.kept (k:∀b u,h.get? b=J u->h'.get? b=J u):Un fs ex H H h h' :=
 ⟨λb ob q _ _ _=>k b ob q,λb ob q _ _ _=>⟨ob.slots,k b ob q⟩,λ_ _ _ n _=>n,λb ob q _=>⟨ob,k b ob q⟩,λ_ _ q=>q,λ_ _ _ q=>q,λ_ ps q=>⟨#[],by rw[q];simp⟩⟩
def Un.refl:Un fs ex H H h h:=Un.kept λ_ _ q=>q
def Un.laid (k:∀b u,h.get? b=J u->h'.get? b=J u)(hp:h.objs.size<=a)(hn:H a=L):Un fs ex H (bc H a o) h h' where
 keep:=λb u q _ _ _=>k b u q
 slot:=λb u q _ _ _=>⟨u.slots,k b u q⟩
 free:=λb u q n _=>by rw[aG (Þ (ď (Ô q) hp))];exact n
 there:=λb u q _=>⟨u,k b u q⟩
 tups:=λb xs q=>by rw[aG (bM q hn)];exact q
 frzs:=λb u xs q=>by rw[aG (bM q hn)];exact q
 tbls:=λb ps q=>⟨#[],by rw[aG (bM q hn),q];simp⟩
theorem Un.write (mu:Vw (H x))(he:e=x\/H e=J (.own x))(k:∀b u,b≠e->h.get? b=J u->h'.get? b=J u)(VO:∃u,h'.get? e=J u):Un fs ex H (bc H x o) h h':=by
 have hx:∀b,H b=L->b≠x:=λb n z=>by subst z;rw[n] at mu;exact mu
 have hb:∀b,H b=L->b≠e:=λb n z=>by
  lia
 have hm:∀b u,H b=J u->¬Vw (J u)->b≠x:=λb u q nm z=>by lia
 refine⟨λb u q n _ _=>k b u (hb b n) q,λb u q n _ _=>⟨u.slots,k b u (hb b n) q⟩,λb u q n _=>by rw[aG (hx b n)];exact n,λb u q _=>?_,
  λb xs q=>by rw[aG (hm b _ q λz=>z)];exact q,λb u xs q=>by rw[aG (hm b _ q λz=>z)];exact q,λb ps q=>⟨#[],by rw[aG (hm b _ q λz=>z),q];simp⟩⟩
 grind
end
noncomputable def trk (h:É)(H:Hp):List I:=(ā h.objs.size).filter λa=>(H a).isSome
def Hm (h:É)(H:Hp):É:=PySem.W.hideAll h (trk h H)
def Hn (h:É)(H:Hp):(Hm h H).objs.size=h.objs.size:=PySem.W.hideAll_size _ _
def JM {H:Hp}{o:Obj}(e:h.get? b=J o)(n:H b=L):(Hm h H).get? b=J o:=
 PySem.W.hideAll_get _ e λhm=>by
  have q:=(List.mem_filter.mp hm).2;grind
theorem Oq {H:Hp}{o:Obj}(e:(Hm h H).get? b=J o):h.get? b=J o/\H b=L:=by
 have e' :=PySem.W.of_hideAll _ e;refine⟨e',?_⟩;cases q:H b with
 |none=>rfl
 |some x=>
  grind[trk,Ô,Hm,PySem.W.hideAll_none]
end L2
variable {xs vs:List L2.V}{H H' H1 H2:L2.Hp}{o:L2.HO}{v y v':L2.V}{aV:List (List L2.Key×L2.V)}
namespace L2
structure Mod (K:È)(mg:Str->Option d)(base:É):Prop where
 kin:K.In base
 glob:base.Ns ê mg
 blt:∃mb,base.Ns builtinsNs mb/\∀x:Str,x≠"__name__"->mb x=Ĉ x
 nolimit:base.NoLimit
structure Cx where
 prog:ó
 w:â
 K:È
 mg:Str->Option d
 base:É
 A:Ð
 N:List Str
 s₀:À
 H₀:Hp
 env:Env
 outer:List Env
 stack:List Env
 ex:List I
 fn:Str->Bool
 calm:Bool
 pn:List (I×Obj)
 xe:d->À->Prop
noncomputable def Ho (l:List Env):List I:=l.filterMap (·.frame)
abbrev Cx.fs (X:Cx):List I:=Ho X.outer
def AN (sc:þ)(x:Str):Prop:=sc.names.lookup x=J .local\/sc.names.lookup x=J .cell\/sc.names.lookup x=J .free
def JE (sc:þ)(x:Str):Prop:=sc.names.lookup x=J .local\/sc.names.lookup x=J .cell
def Zt (env:Env)(h:É)(m:Str->Option d)(x:Str)(u:d):Prop:=
 (env.kindOf x=J .local/\m x=J u)\/((env.kindOf x=J .cell\/env.kindOf x=J .free)/\∃c,env.cells.lookup x=J c/\h.IsCell c (J u))
structure Cx.Ok (X:Cx):Prop where
 mod:Mod X.K X.mg X.base
 kind:X.env.scope.kind=.function
 glob:X.env.globals=ê
 blt:X.env.builtins=builtinsNs
 above:X.s₀.heap.objs.size<=X.env.locals
 inj:∀x y c,X.env.cells.lookup x=J c->X.env.cells.lookup y=J c->x=y
 has:∀x,(X.env.kindOf x=J .cell\/X.env.kindOf x=J .free)->∃c,X.env.cells.lookup x=J c
 cab:∀x c,X.fn x=Z->X.env.cells.lookup x=J c->X.s₀.heap.objs.size<=c
 hd:X.calm=Z->X.A.handled=L
 frames:X.A.frames=J X.stack
 stk:X.stack=X.outer\/(X.stack=X.env::X.outer/\X.env.frame=J X.env.locals)
 exf:∀b∈X.ex,b≠X.env.locals/\∀x c,X.env.cells.lookup x=J c->c≠b
 bs:∀b o,X.base.get? b=J o->X.s₀.heap.get? b=J o/\X.H₀ b=L
 bsz:X.base.objs.size<=X.s₀.heap.objs.size
 noex:∀b o,X.base.get? b=J o->b∉X.ex
 exfs:∀b∈X.ex,b∉X.fs
 funs:X.s₀.heap.FunFrames X.base X.outer
 frf:∀b∈X.fs,X.H₀ b=L
structure aO (X:Cx)(pins:List (I×Obj))(Y:List (Option V))(H:Hp)(s:À):Prop where
 ok:X.Ok
 os:s.os=X.s₀.os
 bare:Ņ s.gens
 base:Un X.fs X.ex X.H₀ H X.s₀.heap s.heap
 loc:∃m,s.heap.Ns X.env.locals m/\∀(i:Nat) (x:Str) (v:V),X.N[i]? = J x->Y[i]? = J (J v)->AN X.env.scope x->∃u,aX v u/\Zt X.env s.heap m x u
 cell:∀x c,X.env.cells.lookup x=J c->∃v,s.heap.IsCell c v
 free:H X.env.locals=L
 freeC:∀x c,X.env.cells.lookup x=J c->H c=L
 pin:∀p∈X.pn++pins,s.heap.get? p.1=J p.2/\H p.1=L/\p.1≠X.env.locals/\p.1∉X.fs/\∀v,p.2.data≠.cell v
 hok:jZ X.prog X.w H s.heap
 len:Y.length=X.N.length
section
variable {X:Cx}{Y:List (Option V)}
theorem Cx.Ok.nofr (ok:X.Ok){o:Obj}(e:X.base.get? b=J o):b∉X.fs:=λhb=>by
 have:=(ok.funs.mem hb).1;lia
def aO.bs (I:aO X pins Y H s):∀b o,X.base.get? b=J o->s.heap.get? b=J o/\H b=L:=λb o e=>
 ⟨I.base.keep b o (I.ok.bs b o e).1 (I.ok.bs b o e).2 (I.ok.nofr e) (I.ok.noex b o e),I.base.free b o (I.ok.bs b o e).1 (I.ok.bs b o e).2 (I.ok.noex b o e)⟩
def aO.bk (I:aO X pins Y H s):∀b o,X.base.get? b=J o->s.heap.get? b=J o:=λb o e=>(I.bs b o e).1
def aO.mod (I:aO X pins Y H s):Mod X.K X.mg X.base:=I.ok.mod
def aO.kIn (I:aO X pins Y H s):X.K.In s.heap:=I.ok.mod.kin.keeps I.bk
def aO.lt (I:aO X pins Y H s):X.env.locals<s.heap.objs.size:=let ⟨_,hn,_⟩:=I.loc;hn.lt
def aO.sz (I:aO X pins Y H s):X.s₀.heap.objs.size<=s.heap.objs.size:=ą I.ok.above (Š I.lt)
theorem aO.nofs (I:aO X pins Y H s)(h:s.heap.objs.size<=a):a∉X.fs:=λhb=>by
 obtain⟨_,o,ho,_⟩:=I.ok.funs.mem hb;exact absurd (ď (Ô ho) (ą I.sz h)) (ĳ _)
theorem aO.cne (I:aO X pins Y H s):∀x c,X.env.cells.lookup x=J c->c≠X.env.locals:=λx c e z=>by
 obtain⟨v,o,ho,hd⟩:=I.cell x c e;obtain⟨m,⟨o',es,ep,ho',hd',_⟩,_⟩:=I.loc;lia
theorem aO.funs (I:aO X pins Y H s):s.heap.FunFrames X.base X.outer:=by
 have all:∀(l:List Env),(∀b∈Ho l,b∈X.fs)->X.s₀.heap.FunFrames X.base l->s.heap.FunFrames X.base l:=by
  intro l
  induction l with
  |nil=>intro _ _;trivial
  |cons env r ih=>
   intro hs hl;obtain⟨hk,⟨Lk,o,hf,hn,ho,hd⟩,hr⟩:=hl;have hL:=hs Lk (by unfold Ho;rw[ϖ,hf];exact Ï);obtain⟨sl,e⟩:=I.base.slot Lk o ho (I.ok.frf Lk hL) hL λz=>I.ok.exfs Lk z hL;exact⟨hk,⟨Lk,_,hf,hn,e,hd⟩,ih (λb hb=>hs b (by unfold Ho;rw[ϖ,hf];exact Ö _ hb)) hr⟩
 exact all _ (λ_ hb=>hb) I.ok.funs
theorem aO.stack (I:aO X pins Y H s):s.heap.FunFrames X.base X.stack:=by
 rcases I.ok.stk with e|⟨e,hf⟩
 ·rw[e];exact I.funs
 ·rw[e];obtain⟨m,hn,_⟩:=I.loc;refine .cons (by rw[I.ok.kind];decide) hf hn ?_ I.funs;exact Heap.get?_none_of_le (ą I.ok.bsz I.ok.above)
theorem aO.stkSub (I:aO X pins Y H s):∀b∈Ho X.stack,b∈X.env.locals::X.fs:=λb hb=>by
 rcases I.ok.stk with e|⟨e,hf⟩
 ·grind
 grind[Ho,ϖ]
theorem aO.stkFree (I:aO X pins Y H s):∀b∈Ho X.stack,H b=L:=λb hb=>by
 rcases Ø.mp (I.stkSub b hb) with e|hb
 ·rw[e];exact I.free
 ·obtain⟨_,o,ho,_⟩:=I.ok.funs.mem hb;exact I.base.free b o ho (I.ok.frf b hb) λz=>I.ok.exfs b z hb
theorem aO.step {t':Nat}{g':Array GenState}{d':Drawn}(I:aO X pins Y H s)(Ol:∀b∈ch,(b∈X.ex\/X.s₀.heap.objs.size<=b)/\b≠X.env.locals/\(∀x c,X.env.cells.lookup x=J c->c≠b)/\∀p∈X.pn++pins,p.1≠b)(keep:∀b o,b≠X.env.locals->b∉X.fs->b∉ch->s.heap.get? b=J o->H b=L->h'.get? b=J o)(slot:∀b o,b≠X.env.locals->b∈X.fs->b∉ch->s.heap.get? b=J o->H b=L->∃sl,h'.get? b=J {o with slots:=sl})(free:∀b o,b∉ch->s.heap.get? b=J o->H b=L->H' b=L)(there:∀b o,b∉ch->s.heap.get? b=J o->∃o',h'.get? b=J o')(tups:∀b xs,H b=J (.tup xs)->H' b=J (.tup xs))(frzs:∀b o u,H b=J (.frz o u)->H' b=J (.frz o u))(tbls:∀b ps,H b=J (.tbl ps)->∃more,H' b=J (.tbl (ps++more)))(ns:∀m,s.heap.Ns X.env.locals m->h'.Ns X.env.locals m)(hok:jZ X.prog X.w H' h')(hg:Ņ g') :
  aO X pins Y H' {s with heap:=h',gens:=g',drawn:=d',toks:=t'}:=by
 have neL:∀b o,X.s₀.heap.get? b=J o->b≠X.env.locals:=λb o e=>Þ (ď (Ô e) I.ok.above);have Zd:∀b o,X.s₀.heap.get? b=J o->b∉X.ex->b∉ch:=λb o e hx hb=>by
  rcases (Ol b hb).1 with z|z
  ·exact hx z
  ·exact absurd (ď (Ô e) z) (ĳ _)
 have Sv:∀x c,X.env.cells.lookup x=J c->∀v,s.heap.IsCell c v->h'.IsCell c v:=λx c e v h00=>by
  obtain⟨o,ho,hd⟩:=h00;have Yn:=λz=>(Ol c z).2.2.1 x c e rfl;by_cases hc:c∈X.fs
  ·obtain⟨sl,q⟩:=slot c o (I.cne x c e) hc Yn ho (I.freeC x c e);exact⟨_,q,hd⟩
  ·exact⟨o,keep c o (I.cne x c e) hc Yn ho (I.freeC x c e),hd⟩
 refine⟨I.ok,I.os,hg,⟨λb o e n hb hx=>?_,λb o e n hb hx=>?_,λb o e n hx=>?_,λb o e hx=>?_,λb xs e=>tups b xs (I.base.tups b xs e),λb o xs e=>frzs b o xs (I.base.frzs b o xs e),λb ps e=>?_⟩,?_,λx c e=>?_,?_,λx c e=>?_,λp hp=>?_,hok,I.len⟩
 ·exact keep b o (neL b o e) hb (Zd b o e hx) (I.base.keep b o e n hb hx) (I.base.free b o e n hx)
 ·obtain⟨sl,e1⟩:=I.base.slot b o e n hb hx;obtain⟨sl',e2⟩:=slot b _ (neL b o e) hb (Zd b o e hx) e1 (I.base.free b o e n hx);exact⟨sl',e2⟩
 ·obtain⟨o',e1⟩:=I.base.there b o e hx;exact free b o' (Zd b o e hx) e1 (I.base.free b o e n hx)
 ·obtain⟨o',e1⟩:=I.base.there b o e hx;exact there b o' (Zd b o e hx) e1
 ·obtain⟨m1,e1⟩:=I.base.tbls b ps e;grind
 ·obtain⟨m,hn,hl⟩:=I.loc;refine⟨m,ns m hn,λi x v e1 e2 e3=>?_⟩;obtain⟨u,r,l⟩:=hl i x v e1 e2 e3;refine⟨u,r,?_⟩;rcases l with l|⟨k,c,e,z⟩
  ·exact .inl l
  ·exact .inr ⟨k,c,e,Sv x c e _ z⟩
 ·obtain⟨v,z⟩:=I.cell x c e;exact⟨v,Sv x c e v z⟩
 ·obtain⟨m,⟨o,_,_,ho,_⟩,_⟩:=I.loc;exact free _ o (λz=>(Ol _ z).2.1 rfl) ho I.free
 ·obtain⟨v,o,ho,hd⟩:=I.cell x c e;exact free c o (λz=>(Ol c z).2.2.1 x c e rfl) ho (I.freeC x c e)
 ·obtain⟨e,n,ne,nf,d⟩:=I.pin p hp;have Yn:=λz=>(Ol p.1 z).2.2.2 p hp rfl;exact⟨keep p.1 p.2 ne nf Yn e n,free p.1 p.2 Yn e n,ne,nf,d⟩
theorem aO.un {t':Nat}(I:aO X pins Y H s)(u:Un X.fs [] H H' s.heap h')(hok:jZ X.prog X.w H' h'):aO X pins Y H' {s with heap:=h',toks:=t'}:=by
 obtain⟨m,⟨o,es,ep,ho,r⟩,_⟩:=id I.loc;obtain⟨sl,hL⟩:=u.any ho I.free (by simp);exact I.step (ch:=[]) (λ_ z=>nomatch z) (λb o _ hb _ e n=>u.keep b o e n hb (by simp)) (λb o _ hb _ e n=>u.slot b o e n hb (by simp)) (λb o _ e n=>u.free b o e n (by simp)) (λb o _ e=>u.there b o e (by simp)) u.tups u.frzs u.tbls (λm' hm=>by
  obtain⟨o',VU,ep',ho',r'⟩:=hm;rw[ho] at ho';cases ho';exact⟨_,VU,ep',hL,r'⟩) hok I.bare
theorem aO.call {t':Nat}{g':Array GenState}{d':Drawn}(I:aO X pins Y H s)(u:Un (Ho X.stack) ch H H' s.heap h')(hok:jZ X.prog X.w H' h')(hg:Ņ g')(Ol:∀b∈ch,(b∈X.ex\/X.s₀.heap.objs.size<=b)/\b≠X.env.locals/\(∀x c,X.env.cells.lookup x=J c->c≠b)/\∀p∈X.pn++pins,p.1≠b) :
  aO X pins Y H' {s with heap:=h',gens:=g',drawn:=d',toks:=t'}:=by
 obtain⟨m,⟨o,es,ep,ho,r⟩,_⟩:=id I.loc;obtain⟨sl,hL⟩:=u.any ho I.free λz=>(Ol _ z).2.1 rfl;exact I.step Ol (λb o hL hb hc e n=>u.keep b o e n (λz=>(Ø.mp (I.stkSub b z)).elim hL hb) hc) (λb o _ _ hc e n=>u.any e n hc) (λb o hc e n=>u.free b o e n hc) (λb o hc e=>u.there b o e hc) u.tups u.frzs u.tbls (λm' hm=>by
  obtain⟨o',VU,ep',ho',r'⟩:=hm;rw[ho] at ho';cases ho';exact⟨_,VU,ep',hL,r'⟩) hok hg
theorem aO.turned {t':Nat}(I:aO X pins Y H s)(k:∀b o,b≠it->s.heap.get? b=J o->h'.get? b=J o)(hn:H it=L)(hL:it≠X.env.locals)(h1:it∈X.ex\/X.s₀.heap.objs.size<=it)(h2:∀x c,X.env.cells.lookup x=J c->c≠it)(h3:∀p∈X.pn++pins,p.1≠it):aO X pins Y H {s with heap:=h',toks:=t'}:=by
 have nit:∀b u,H b=J u->b≠it:=λb u e z=>by lia
 refine I.step (ch:=[it]) (λb hb=>?_) (λb o _ _ hc e _=>k b o (λz=>hc (by simp[z])) e) (λb o _ _ hc e _=>⟨o.slots,k b o (λz=>hc (by simp[z])) e⟩) (λ_ _ _ _ n=>n)
  (λb o hc e=>⟨o,k b o (λz=>hc (by simp[z])) e⟩) (λ_ _ e=>e) (λ_ _ _ e=>e) (λb ps e=>⟨#[],by rw[e];simp⟩) (λm hm=>?_) (λb u e=>?_) I.bare
 ·have e:=by simpa using hb
  subst e;exact⟨h1,hL,h2,h3⟩
 ·obtain⟨o,es,ep,ho,r⟩:=hm;exact⟨o,es,ep,k _ o (Ne.symm hL) ho,r⟩
 ·refine (I.hok b u e).stay (λc v hc q=>k c v ?_ q) (λ_ q=>q) λ_ _ q=>q;lia
def aO.tok (I:aO X pins Y H s)(t:Nat):aO X pins Y H {s with toks:=t}:=I.un Un.refl I.hok
def aO.kept {t':Nat}(I:aO X pins Y H s)(k:∀b u,s.heap.get? b=J u->h'.get? b=J u):aO X pins Y H {s with heap:=h',toks:=t'}:=I.un (Un.kept k) (I.hok.kept k)
def aO.laid {t':Nat}(I:aO X pins Y H s)(k:∀b u,s.heap.get? b=J u->h'.get? b=J u)(hp:s.heap.objs.size<=a)(new:c8 X.prog X.w (bc H a o) h' a o) :
  aO X pins Y (bc H a o) {s with heap:=h',toks:=t'}:=I.un (Un.laid k hp (I.hok.fresh hp)) (I.hok.laid k hp new)
def aO.write {t':Nat}{x e:Ý}(I:aO X pins Y H s)(mu:Vw (H x))(he:e=x\/H e=J (.own x))(k:∀b u,b≠e->s.heap.get? b=J u->h'.get? b=J u)(VO:∃u,h'.get? e=J u)(new:c8 X.prog X.w (bc H x o) h' x o):aO X pins Y (bc H x o) {s with heap:=h',toks:=t'}:=I.un (Un.write mu he k VO) (I.hok.write mu he k VO new)
def aO.pins_of {Sw:List (Ý×Obj)}(I:aO X pins Y H s)(h:∀p∈Sw,s.heap.get? p.1=J p.2/\H p.1=L/\p.1≠X.env.locals/\p.1∉X.fs/\∀v,p.2.data≠.cell v):aO X Sw Y H s:=
 ⟨I.ok,I.os,I.bare,I.base,I.loc,I.cell,I.free,I.freeC,λp hp=>(ı.mp hp).elim (λz=>I.pin p (Ł _ z)) (h p),I.hok,I.len⟩
theorem AO (hN:N.Nodup)(a:N[i]? = J x)(b:N[j]? = J x):i=j:=by
 obtain⟨h1,e1⟩:=é.mp a;obtain⟨h2,e2⟩:=é.mp b;exact (List.getElem_inj hN).mp (e1.trans e2.symm)
theorem xC {A:Ð}{u:Ì}{Q:Unit->À->Prop}(I:aO X pins Y H s)(hN:X.N.Nodup)(hi:X.N[i]? = J x)(hx:JE X.env.scope x)(r:aX v u)(h:∀s',aO X pins (Y.set i (J v)) H s'->(∃a,Ļ a s.heap s'.heap/\(a=X.env.locals\/X.env.cells.lookup x=J a))->Q () s')(hf:X.fn x=Z\/X.env.scope.names.lookup x=J .local:=by first|exact .inl rfl|exact .inr rfl|assumption):Á Mqq A (storeName X.env x u) Q E s:=by
 obtain⟨m,hn,hl⟩:=id I.loc;have aaP:(X.env.scope.kind==.class||(X.env.scope.kind==.module&&X.env.locals != X.env.globals))=M:=by rw[I.ok.kind];rfl
 have hiσ:i<Y.length:=by rw[I.len];exact (é.mp hi).1
 have cne:=I.cne;have Hg:∀{a:Ý} {h':É},(∃o,s.heap.get? a=J o/\H a=L)->Ļ a _ h'->jZ _ X.w H h':=λ{a h'} ha hs b ob e=>by
  obtain⟨_,_,hfree⟩:=ha;refine (I.hok b ob e).stay (λc w' hc q=>(hs.2 c ?_).trans q) (λ_ q=>q) λ_ _ q=>q;lia
 rcases hx with hk|hk
 ·refine wpAny_storeName_local hk hn (λh' hn' hs=>?_) aaP;obtain⟨oL,_,_,Vi,_⟩:=id hn;refine h _ ⟨I.ok,I.os,I.bare,⟨λb o e n hb hx=>?_,λb o e n hb hx=>?_,I.base.free,λb o e hx=>?_,I.base.tups,I.base.frzs,I.base.tbls⟩,⟨_,hn',λj y v' e1 e2 e3=>?_⟩,λy c e=>?_,I.free,I.freeC,λp hp=>?_,Hg ⟨oL,Vi,I.free⟩ hs,by simpa using I.len⟩ ⟨_,hs,.inl rfl⟩
  ·exact (hs.2 b (Þ (ď (Ô e) I.ok.above))).trans (I.base.keep b o e n hb hx)
  ·obtain⟨sl,e1⟩:=I.base.slot b o e n hb hx;exact⟨sl,(hs.2 b (Þ (ď (Ô e) I.ok.above))).trans e1⟩
  ·obtain⟨o',e1⟩:=I.base.there b o e hx;exact⟨o',(hs.2 b (Þ (ď (Ô e) I.ok.above))).trans e1⟩
  ·by_cases hj:j=i
   ·subst hj;rw[hi] at e1;cases e1;rw[ŉ hiσ] at e2;cases e2;exact⟨u,r,.inl ⟨hk,by simp⟩⟩
   ·rw[ē (Ne.symm hj)] at e2;obtain⟨u',r',q⟩:=hl j y v' e1 e2 e3;refine⟨u',r',?_⟩;rcases q with⟨k,e⟩|⟨k,c,e,z⟩
    ·refine .inl ⟨k,?_⟩;have:y≠x:=λe=>hj (AO hN e1 (e▸hi));simp[this,e]
    ·exact .inr ⟨k,c,e,z.sameBut hs (cne y c e)⟩
  ·obtain⟨w',z⟩:=I.cell y c e;exact⟨w',z.sameBut hs (cne y c e)⟩
  ·obtain⟨e,n,ne,nf,d⟩:=I.pin p hp;exact⟨(hs.2 p.1 ne).trans e,n,ne,nf,d⟩
 ·have hfn:X.fn x=Z:=by
   lia
  obtain⟨c,hc⟩:=I.ok.has x (.inl hk);obtain⟨w',z⟩:=I.cell x c hc;refine wpAny_storeName_cell I.ok.kind hk hc z (λh' hc' hs=>?_);obtain⟨oc,hoc,hocd⟩:=id z;refine h _ ⟨I.ok,I.os,I.bare,⟨λb o e n hb hx=>?_,λb o e n hb hx=>?_,I.base.free,λb o e hx=>?_,I.base.tups,I.base.frzs,I.base.tbls⟩,⟨m,hn.sameBut hs (Ne.symm (cne x c hc)),λj y v' e1 e2 e3=>?_⟩,λy c' e=>?_,I.free,I.freeC,λp hp=>?_,Hg ⟨oc,hoc,I.freeC x c hc⟩ hs,by simpa using I.len⟩ ⟨c,hs,.inr hc⟩
  ·exact (hs.2 b (Þ (ď (Ô e) (I.ok.cab x c hfn hc)))).trans (I.base.keep b o e n hb hx)
  ·obtain⟨sl,e1⟩:=I.base.slot b o e n hb hx;exact⟨sl,(hs.2 b (Þ (ď (Ô e) (I.ok.cab x c hfn hc)))).trans e1⟩
  ·obtain⟨o',e1⟩:=I.base.there b o e hx;exact⟨o',(hs.2 b (Þ (ď (Ô e) (I.ok.cab x c hfn hc)))).trans e1⟩
  ·by_cases hj:j=i
   ·subst hj;rw[hi] at e1;cases e1;rw[ŉ hiσ] at e2;cases e2;exact⟨u,r,.inr ⟨.inl hk,c,hc,hc'⟩⟩
   ·rw[ē (Ne.symm hj)] at e2;obtain⟨u',r',q⟩:=hl j y v' e1 e2 e3;refine⟨u',r',?_⟩;rcases q with q|⟨k,c',e,z'⟩
    ·exact .inl q
    ·refine .inr ⟨k,c',e,z'.sameBut hs ?_⟩;rintro rfl;exact hj (AO hN e1 (I.ok.inj _ _ _ e hc▸hi))
  ·by_cases hcc:c'=c
   ·grind
   ·obtain⟨w2,z2⟩:=I.cell y c' e;exact⟨w2,z2.sameBut hs hcc⟩
  ·obtain⟨e,n,ne,nf,d⟩:=I.pin p hp;refine⟨(hs.2 p.1 ?_).trans e,n,ne,nf,d⟩;grind
def AQ {A:Ð}{u:d}{Q:Unit->À->Prop}(I:aO X pins Y H s)(hN:X.N.Nodup)(hi:X.N[i]? = J x)(hx:JE X.env.scope x)(r:aX v u)(h:∀s',aO X pins (Y.set i (J v)) H s'->Q () s')(hf:X.fn x=Z\/X.env.scope.names.lookup x=J .local:=by first|exact .inl rfl|exact .inr rfl|assumption):Á Mqq A (storeName X.env x u) Q E s:=
 xC I hN hi hx r (λs' I' _=>h s' I') hf
theorem aO.call' {s':À}(I:aO X pins Y H s)(ho:s'.os=s.os)(u:Un (Ho X.stack) ch H H' s.heap s'.heap)(hok:jZ X.prog X.w H' s'.heap)(hg:Ņ s'.gens)(Ol:∀b∈ch,(b∈X.ex\/X.s₀.heap.objs.size<=b)/\b≠X.env.locals/\(∀x c,X.env.cells.lookup x=J c->c≠b)/\∀p∈X.pn++pins,p.1≠b):aO X pins Y H' s':=by
 obtain⟨h',g',d',t',o'⟩:=s';have e:=ho;subst e;exact I.call u hok hg Ol
end
abbrev XK:=d->Option I->Hp->Prop
noncomputable abbrev St:=List (Option V)
abbrev VK:=V->Hp->Prop
abbrev TE:=St->Hp->VK->Prop
abbrev TT:=St->Hp->(Bool->Hp->Prop)->Prop
abbrev TA:=St->Hp->(List V->Hp->Prop)->Prop
structure lX where
 nx:St->Hp->Prop
 rt:VK
 bk:St->Hp->Prop:=λ_ _=>False
 ct:St->Hp->Prop:=λ_ _=>False
abbrev TS:=lX->St->Hp->Prop
def EP (X:Cx)(pins:List (I×Obj))(Y:St)(Q:VK)(u:d)(s':À):Prop:=∃v H',aO X pins Y H' s'/\aX v u/\Q v H'
def TP (X:Cx)(pins:List (I×Obj))(Y:St)(Q:Bool->Hp->Prop)(b:Bool)(s':À):Prop:=∃H',aO X pins Y H' s'/\Q b H'
def AP (X:Cx)(pins:List (I×Obj))(Y:St)(Q:List V->Hp->Prop)(us:List d)(s':À):Prop:=∃vs H',aO X pins Y H' s'/\aZ vs us/\Q vs H'
def SP (X:Cx)(pins:List (I×Obj))(D:lX)(f:Flow)(s':À):Prop:=
 match f with
 | .next=>∃Y' H',aO X pins Y' H' s'/\D.nx Y' H'
 | .brk=>∃Y' H',aO X pins Y' H' s'/\D.bk Y' H'
 | .cont=>∃Y' H',aO X pins Y' H' s'/\D.ct Y' H'
 | .ret u=>∃v Y' H',aO X pins Y' H' s'/\aX v u/\D.rt v H'
def PE (X:Cx)(e:Æ)(t:TE):Prop:=
 ∀(pins:List (I×Obj)) (s:À) (Y:St) (H:Hp) (Q:VK),aO X pins Y H s->t Y H Q->Á (Ä X.prog X.w) X.A (Í e X.env) (EP X pins Y Q) X.xe s
def PT (X:Cx)(e:Æ)(t:TT):Prop:=
 ∀(pins:List (I×Obj)) (s:À) (Y:St) (H:Hp) (Q:Bool->Hp->Prop),aO X pins Y H s->t Y H Q->Á (Ä X.prog X.w) X.A (isTrue e X.env (Í e X.env)) (TP X pins Y Q) X.xe s
def PW (X:Cx)(e:Æ)(t:TT):Prop:=
 ∀(pA:Sem d) (pins:List (I×Obj)) (s:À) (Y:St) (H:Hp) (Q:Bool->Hp->Prop),aO X pins Y H s->t Y H Q->Á (Ä X.prog X.w) X.A (isTrue e X.env pA) (TP X pins Y Q) X.xe s
def PW.pt {X:Cx}{e:Æ}{t:TT}(h:PW X e t):PT X e t:=h _
def PA (X:Cx)(es:List Æ)(t:TA):Prop:=
 ∀(pos:Pos) (pins:List (I×Obj)) (s:À) (Y:St) (H:Hp) (Q:List V->Hp->Prop),aO X pins Y H s->t Y H Q->Á (Ä X.prog X.w) X.A (spliced (ä pos (Î es X.env))) (AP X pins Y Q) X.xe s
def PS (X:Cx)(st:Ë)(t:TS):Prop:=
 ∀(pins:List (I×Obj)) (s:À) (Y:St) (H:Hp) (D:lX),aO X pins Y H s->t D Y H->Á (Ä X.prog X.w) X.A (exec st X.env) (SP X pins D) X.xe s
def tX (X:Cx)(st:List Ë)(t:TS):Prop:=
 ∀(pins:List (I×Obj)) (s:À) (Y:St) (H:Hp) (D:lX),aO X pins Y H s->t D Y H->Á (Ä X.prog X.w) X.A (execs st X.env) (SP X pins D) X.xe s
def c7 {α:Type}{t:Sem α}{Q Q':α->À->Prop}{A:Ð}(h:Á Mqq A t Q E s)(hQ:∀a s,Q a s->Q' a s):Á Mqq A t Q' E s:=ý h hQ λ_ _ x=>x
end L2
variable {X:L2.Cx}{Y:L2.St}{tc:L2.TT}{te:L2.TE}{ta:L2.TA}
namespace L2
section
def wW (i:Nat):TE:=λY H Q=>∃v,Y[i]? = J (J v)/\Q v H
def tC (v:V):TE:=λ_ H Q=>Q v H
theorem eN {pos:Pos}(hN:X.N[i]? = J x)(hv:AN X.env.scope x)(hd:(x==("__debug__":Str))=M:=by decide)(jX:(x==("__classdict__":Str))=M:=by decide):PE X (.Name x pos) (wW i):=by
 intro pins s Y H Q I h;obtain⟨v,e,h⟩:=h;obtain⟨m,hn,hl⟩:=I.loc;obtain⟨u,r,l⟩:=hl i x v hN e hv;have fin:EP X pins Y Q u s:=⟨v,H,I,r,h⟩;rcases l with⟨hk,hm⟩|⟨hk,c,hc,yO⟩
 ·exact wpAny_Name (wpAny_loadName_local I.ok.kind hk hn hm fin) hd
 ·rcases hk with hk|hk
  ·exact wpAny_Name (wpAny_loadName_cell I.ok.kind hk hc yO fin) hd
  ·exact wpAny_Name (wpAny_loadName_free I.ok.kind hk hc yO fin jX) hd
def yR {i j pos}:PE X (.Constant (.int i) j pos) (tC (.int i)):=λ_ _ _ H _ I h=>wpAny_Constant_int ⟨.int i,H,I.tok _,⟨_,rfl⟩,h⟩
def VZ {b j pos}:PE X (.Constant (.bool b) j pos) (tC (.bl b)):=λ_ _ _ H _ I h=>Constant_bool ⟨.bl b,H,I,rfl,h⟩
def SV {j pos}:PE X (.Constant .none j pos) (tC .non):=λ_ _ _ H _ I h=>Constant_none ⟨.non,H,I,rfl,h⟩
def JN {x j pos}:PE X (.Constant (.str x) j pos) (tC (.str x)):=λ_ _ _ H _ I h=>Calls.Constant_str ⟨.str x,H,I.tok _,⟨_,rfl⟩,h⟩
def Gl (X:Cx)(x:Str):Prop:=X.env.kindOf x=J .globalImplicit
def sY {u:d}{pos:Pos}(I:aO X pins Y H s)(hg:Gl X x)(hm:X.mg x=J u)(h:Q u s)(hd:(x==("__debug__":Str))=M:=by decide):Á (Ä X.prog X.w) X.A (Í (.Name x pos) X.env) Q E s:=
 afk I.ok.kind hg (Calls.loadGlobal_global (by rw[I.ok.glob];exact I.mod.glob.keeps I.bk) hm h) hd
theorem kg {u:d}{pos:Pos}(I:aO X pins Y H s)(hg:Gl X x)(hm:X.mg x=L)(hv:Ĉ x=J u)(h:Q u s)(hn:x≠"__name__":=by decide)(hd:(x==("__debug__":Str))=M:=by decide):Á (Ä X.prog X.w) X.A (Í (.Name x pos) X.env) Q E s:=by
 obtain⟨mb,h1,h2⟩:=I.mod.blt;exact afk I.ok.kind hg (Calls.loadGlobal_builtin (by rw[I.ok.glob];exact I.mod.glob.keeps I.bk) hm (by rw[I.ok.blt];exact h1.keeps I.bk) ((h2 x hn).trans hv) h) hd
def Ot {u:d}{pos:Pos}(hg:Gl X x)(hm:X.mg x=J u)(r:aX v u)(hd:(x==("__debug__":Str))=M:=by decide):PE X (.Name x pos) (tC v):=
 λ_ _ _ H _ I h=>sY I hg hm ⟨v,H,I,r,h⟩ hd
variable {a b:Æ}{ta tb:TE}{pos:Pos}
def tB (t:TE):TT:=λY H Q=>t Y H λx H1=>∃c,x=.bl c/\Q c H1
theorem SW {e:Æ}{t:TE}(h:PE X e t)(he:∀pA,isTrue e X.env pA=(do let v ←pA;standAt e.pos;holding [v] (truthy v)):=by intro _;rfl):PT X e (tB t):=by
 intro pins s Y H Q I hw;refine isTrue_plain (c7 (h pins s Y H _ I hw) λv s1 ⟨x,H1,I1,r1,q1⟩=>?_) (he _);obtain⟨d,rfl,q⟩:=q1;cases r1;exact ų ⟨H1,I1,q⟩
variable {tA tB':TT}{rest:List Æ}
def V0 (t u:TT):TT:=λY H Q=>t Y H λc H1=>if c=Z then u Y H1 Q else Q M H1
def tOr (t u:TT):TT:=λY H Q=>t Y H λc H1=>if c=Z then Q Z H1 else u Y H1 Q
def Zu (t:TT):TT:=λY H Q=>t Y H λc H1=>Q (!c) H1
theorem Ou (ha:PT X a tA):PW X (.BoolOp .And [a] pos) tA:=by
 intro wh pins s Y H Q I h;refine isTrue_and (c7 (ha pins s Y H Q I h) λc s1 e=>?_);grind[isTrue_and_nil]
theorem SX (ha:PT X a tA):PW X (.BoolOp .Or [a] pos) tA:=by
 intro wh pins s Y H Q I h;refine isTrue_or (c7 (ha pins s Y H Q I h) λc s1 e=>?_);grind[isTrue_or_nil]
theorem SY (ha:PT X a tA)(hb:PW X (.BoolOp .And (b::rest) pos) tB'):PW X (.BoolOp .And (a::b::rest) pos) (V0 tA tB'):=by
 intro wh pins s Y H Q I h;refine isTrue_and (c7 (ha pins s Y H _ I h) λc s1 ⟨H1,I1,q1⟩=>?_);cases c with
 |true=>exact hb wh pins s1 Y H1 Q I1 q1
 |false=>exact⟨H1,I1,q1⟩
theorem V1 (ha:PT X a tA)(hb:PW X (.BoolOp .Or (b::rest) pos) tB'):PW X (.BoolOp .Or (a::b::rest) pos) (tOr tA tB'):=by
 intro wh pins s Y H Q I h;refine isTrue_or (c7 (ha pins s Y H _ I h) λc s1 ⟨H1,I1,q1⟩=>?_);cases c with
 |true=>exact⟨H1,I1,q1⟩
 |false=>exact hb wh pins s1 Y H1 Q I1 q1
def S0 (ha:PT X a tA):PT X (.UnaryOp .Not a pos) (Zu tA):=by
 intro pins s Y H Q I h;exact isTrue_not (ha pins s Y H _ I h)
def V2 (ta tb:TE):TE:=λY H Q=>ta Y H λx H1=>∃c,x=.bl c/\if c=Z then tb Y H1 Q else Q (.bl M) H1
def Zv (ta tb:TE):TE:=λY H Q=>ta Y H λx H1=>∃c,x=.bl c/\if c=Z then Q (.bl Z) H1 else tb Y H1 Q
def S1 {op}{t:TE}(h:PE X a t):PE X (.BoolOp op [a] pos) t:=λpins s Y H Q I hw=>BoolOp_one (h pins s Y H Q I hw)
theorem S2 (ha:PE X a ta)(hb:PE X (.BoolOp .And (b::rest) pos) tb):PE X (.BoolOp .And (a::b::rest) pos) (V2 ta tb):=by
 intro pins s Y H Q I h;refine BoolOp_and (c7 (ha pins s Y H _ I h) λv s1 ⟨x,H1,I1,r1,q1⟩=>?_);obtain⟨c,rfl,q1⟩:=q1;cases r1;refine ų ?_;cases c with
 |true=>exact hb pins s1 Y H1 Q I1 q1
 |false=>exact⟨.bl M,H1,I1,rfl,q1⟩
theorem V3 (ha:PE X a ta)(hb:PE X (.BoolOp .Or (b::rest) pos) tb):PE X (.BoolOp .Or (a::b::rest) pos) (Zv ta tb):=by
 intro pins s Y H Q I h;refine BoolOp_or (c7 (ha pins s Y H _ I h) λv s1 ⟨x,H1,I1,r1,q1⟩=>?_);obtain⟨c,rfl,q1⟩:=q1;cases r1;refine ų ?_;cases c with
 |false=>exact hb pins s1 Y H1 Q I1 q1
 |true=>exact⟨.bl Z,H1,I1,rfl,q1⟩
end
end L2
namespace L2
def fG (K:È)(H:Hp)(a:I)(xs:List V):Prop:=
 Rd H a (.lst xs) \/
  ∃(o:Obj) (aH:Array d) (n:Nat),K.lookup a=J o/\o.cls=.type "list"/\o.dict=L/\o.data=.seq aH n/\aH.size<=Å/\aZ xs aH.toList
def gR (K:È)(H:Hp)(a:I)(xs:List V):Prop:=
 Rd H a (.tup xs) \/
  ∃(o:Obj) (aH:Array d) (n:Nat),K.lookup a=J o/\o.cls=.type "tuple"/\o.data=.seq aH n/\aH.size<=Å/\aZ xs aH.toList
noncomputable def Zw:d->Option V
 | .none=>J .non
 | .bool b=>J (.bl b)
 | .int i _=>J (.int i)
 | .str x _=>J (.str x)
 | .bytes b _=>J (.byt b)
 | .float b _=>J (.flt b)
 | .ref a=>J (.ref a)
 | .type n=>J (.ty n)
 |_=>L
theorem aX.abs {x:V}{u:d}(r:aX x u):Zw u=J x:=by
 cases x with
 |non=>cases r;rfl
 |bl _=>cases r;rfl
 |int _=>obtain⟨t,rfl⟩:=r;rfl
 |str _=>obtain⟨t,rfl⟩:=r;rfl
 |byt _=>obtain⟨t,rfl⟩:=r;rfl
 |flt _=>obtain⟨t,rfl⟩:=r;rfl
 |ref _=>cases r;rfl
 |ty _=>cases r;rfl
def aX.inj {x:V}{u:d}(r:aX x u)(q:aX y u):x=y:=Đ (r.abs.symm.trans q.abs)
theorem aZ.inj:∀{xs ys:List V} {us:List d},aZ xs us->aZ ys us->xs=ys
 |_,_,_,.nil,.nil=>rfl
 |_,_,_,.cons r t,.cons r' t'=>by rw[r.inj r',aZ.inj t t']
section
variable {ys:List V}
def fG.of (h:H a=J (.lst xs)):fG K H a xs:=.inl (.inl h)
def gR.of (h:H a=J (.tup xs)):gR K H a xs:=.inl (.inl h)
theorem aO.list (I:aO X pins Y H s)(h:fG X.K H a xs):∃aH:List d,aZ xs aH/\PlainL s.heap a aH.toArray/\xs.length<=Å:=by
 rcases h with h|⟨o,aH,n,hk,hc,hd,hs,hz,r⟩
 ·obtain⟨z,aH,n,r,e⟩:=h.ok I.hok;exact⟨aH,r,⟨_,n,e,rfl,rfl,rfl⟩,z⟩
 ·refine⟨aH.toList,r,⟨o,n,I.kIn a o hk,hc,hd,by simpa using hs⟩,?_⟩;have e:=r.length;grind
theorem aO.tuple (I:aO X pins Y H s)(h:gR X.K H a xs):∃aH:List d,aZ xs aH/\IsTup s.heap a aH.toArray/\xs.length<=Å:=by
 rcases h with h|⟨o,aH,n,hk,hc,hs,hz,r⟩
 ·obtain⟨z,aH,r,p,_⟩:=h.ok I.hok;exact⟨aH,r,p,z⟩
 ·refine⟨aH.toList,r,⟨o,I.kIn a o hk,hc,n,by simpa using hs⟩,?_⟩;have e:=r.length;simp only[Ğ] at e;lia
theorem aO.list_inj (I:aO X pins Y H s)(h:fG X.K H a xs)(h':fG X.K H a ys):xs=ys:=by
 obtain⟨aH,r,⟨o,n,e,_,_,d⟩,_⟩:=I.list h;obtain⟨sV,r',⟨o',n',e',_,_,d'⟩,_⟩:=I.list h';rw[e] at e';cases e';rw[d] at d';injection d' with d1 _
 have:=by simpa using congrArg Array.toList d1
 subst this;exact r.inj r'
theorem aO.tuple_inj (I:aO X pins Y H s)(h:gR X.K H a xs)(h':gR X.K H a ys):xs=ys:=by
 obtain⟨aH,r,⟨o,e,_,n,d⟩,_⟩:=I.tuple h;obtain⟨sV,r',⟨o',e',_,n',d'⟩,_⟩:=I.tuple h';rw[e] at e';cases e';rw[d] at d';injection d' with d1 _
 have:=by simpa using congrArg Array.toList d1
 subst this;exact r.inj r'
end
noncomputable abbrev Cx.wish (X:Cx)(E:d->À->Prop):Cx:={X with xe:=E}
noncomputable abbrev Cx.nox (X:Cx):Cx:=X.wish λ_ _=>False
def Cx.Ok.wish (ok:X.Ok)(E:d->À->Prop):(X.wish E).Ok:=
 ⟨ok.mod,ok.kind,ok.glob,ok.blt,ok.above,ok.inj,ok.has,ok.cab,ok.hd,ok.frames,ok.stk,ok.exf,ok.bs,ok.bsz,ok.noex,ok.exfs,ok.funs,ok.frf⟩
def Cx.Ok.unwish (ok:(X.wish E).Ok):X.Ok:=
 ⟨ok.mod,ok.kind,ok.glob,ok.blt,ok.above,ok.inj,ok.has,ok.cab,ok.hd,ok.frames,ok.stk,ok.exf,ok.bs,ok.bsz,ok.noex,ok.exfs,ok.funs,ok.frf⟩
def aO.wish (I:aO X pins Y H s)(E:d->À->Prop):aO (X.wish E) pins Y H s:=⟨I.ok.wish E,I.os,I.bare,I.base,I.loc,I.cell,I.free,I.freeC,I.pin,I.hok,I.len⟩
def aO.unwish (I:aO (X.wish E) pins Y H s):aO X pins Y H s:=⟨I.ok.unwish,I.os,I.bare,I.base,I.loc,I.cell,I.free,I.freeC,I.pin,I.hok,I.len⟩
theorem SP.unwish {D:lX}{f:Flow}{s':À}(h:SP (X.wish E) pins D f s'):SP X pins D f s':=by
 cases f with
 |next=>obtain⟨Y',H',I,q⟩:=h;exact⟨Y',H',I.unwish,q⟩
 |brk=>obtain⟨Y',H',I,q⟩:=h;exact⟨Y',H',I.unwish,q⟩
 |cont=>obtain⟨Y',H',I,q⟩:=h;exact⟨Y',H',I.unwish,q⟩
 |ret u=>obtain⟨v,Y',H',I,r,q⟩:=h;exact⟨v,Y',H',I.unwish,r,q⟩
def tX.nox {st:List Ë}{t:TS}(h:tX X.nox st t):tX X st t:=λpins s Y H D I hw=>
 ý (h pins s Y H D (I.wish _) hw) (λ_ _ q=>q.unwish) λ_ _ z=>ĥ z
section
variable {rest:List Ë}{t u:TS}{e:Æ}{pos:Pos}
def QR:TS:=λD Y H=>D.nx Y H
def V4 (t u:TS):TS:=λD Y H=>t {D with nx:=u D} Y H
def sZ:tX X [] QR:=λ_ _ Y H _ I h=>Μ ⟨Y,H,I,h⟩
theorem nC (h1:PS X st t)(h2:tX X rest u):tX X (st::rest) (V4 t u):=by
 intro pins s Y H D I h;refine wpAny_execs_cons (c7 (h1 pins s Y H _ I h) λf s1 q=>?_);cases f with
 |next=>
  obtain⟨Y',H',I',q⟩:=q;exact h2 pins s1 Y' H' D I' q
 |ret v=>exact q
 |brk=>exact q
 |cont=>exact q
theorem Ff (h1:PS X st t):tX X [st] t:=by
 intro pins s Y H D I h;refine wpAny_execs_cons (c7 (h1 pins s Y H D I h) λf s1 q=>?_);cases f with
 |next=>exact Μ q
 |ret v=>exact q
 |brk=>exact q
 |cont=>exact q
def aO.quiet (I:aO X pins Y H s):interactive X.env=M:=by simp[interactive,I.ok.kind]
def QS (te:TE):TS:=λD Y H=>te Y H λ_ H1=>D.nx Y H1
def Fg (he:PE X e te)(hs:Ē e L pos.line X.env=pure M:=by rfl):PS X (.Expr e pos) (QS te):=by
 intro pins s Y H D I h;exact wpAny_Expr_any (c7 (he pins s Y H _ I h) λv s1 ⟨x,H1,I1,r1,q1⟩=>⟨Y,H1,I1,q1⟩) I.quiet hs
def V5 (te:TE):TS:=λD Y H=>te Y H D.rt
def yS (he:PE X e te):PS X (.Return (J e) pos) (V5 te):=by
 intro pins s Y H D I h;exact wpAny_Return_some (c7 (he pins s Y H _ I h) λv s1 ⟨x,H1,I1,r1,q1⟩=>⟨x,Y,H1,I1,r1,q1⟩)
def V6 (c:TT)(t u:TS):TS:=λD Y H=>c Y H λb H1=>if b=Z then t D Y H1 else u D Y H1
theorem JO {c:Æ}{a b:List Ë}(hc:PT X c tc)(ha:tX X a t)(hb:tX X b u):PS X (.If c a b pos) (V6 tc t u):=by
 intro pins s Y H D I h;refine wpAny_If (c7 (hc pins s Y H _ I h) λd s1 ⟨H1,I1,q1⟩=>?_);cases d with
 |true=>exact ha pins s1 Y H1 D I1 q1
 |false=>exact hb pins s1 Y H1 D I1 q1
end
abbrev TG:=V->St->Hp->(St->Hp->Prop)->Prop
abbrev JP:=List V->St->Hp->(St->Hp->Prop)->Prop
def PG (X:Cx)(wO:Æ)(t:TG):Prop:=
 ∀(pins:List (I×Obj)) (s:À) (Y:St) (H:Hp) (v:V) (u:d) (Q:St->Hp->Prop),aO X pins Y H s->aX v u->t v Y H Q->
  Á (Ä X.prog X.w) X.A (assign wO X.env u) (λ_ s'=>∃Y' H',aO X pins Y' H' s'/\Q Y' H') X.xe s
def Ov (X:Cx)(ts:List Æ)(t:JP):Prop:=
 ∀(pins:List (I×Obj)) (s:À) (Y:St) (H:Hp) (vs:List V) (us:List d) (Q:St->Hp->Prop),aO X pins Y H s->aZ vs us->t vs Y H Q->
  Á (Ä X.prog X.w) X.A (assignInOrder ((Č ts X.env).map (·.2)) us) (λ_ s'=>∃Y' H',aO X pins Y' H' s'/\Q Y' H') X.xe s
abbrev S3:=V->V->V->Hp->(Hp->Prop)->Prop
def V7 (X:Cx)(t:S3):Prop:=
 ∀(pins:List (I×Obj)) (s:À) (Y:St) (H:Hp) (o i v:V) (ov iv u:d) (Q:Hp->Prop),aO X pins Y H s->aX o ov->aX i iv->aX v u->t o i v H Q->
  Á (Ä X.prog X.w) X.A (setItem ov iv u) (λ_ s'=>∃H',aO X pins Y H' s'/\Q H') X.xe s
section
variable {pos:Pos}
def xD (i:Nat):TG:=λv Y H Q=>Q (Y.set i (J v)) H
def Ow (hN:X.N.Nodup)(hi:X.N[i]? = J x)(hx:JE X.env.scope x)(hf:X.fn x=Z\/X.env.scope.names.lookup x=J .local:=by first|exact .inl rfl|exact .inr rfl|assumption):PG X (.Name x pos) (xD i):=by
 intro pins s Y H v u Q I r h;exact wpAny_assign_Name (AQ I hN hi hx r (λs' I'=>⟨_,H,I',h⟩) hf)
def Zx:JP:=λvs Y H Q=>vs=[]/\Q Y H
def V8 (t:TG)(u:JP):JP:=λvs Y H Q=>∃v r,vs=v::r/\t v Y H λY' H'=>u r Y' H' Q
theorem Ox:Ov X [] Zx:=by
 intro pins s Y H vs us Q I r h;obtain⟨e,h⟩:=h;exact assignInOrder_nil ⟨Y,H,I,h⟩
theorem JQ {e:Æ}{es:List Æ}{t:TG}{u:JP}(h1:PG X e t)(h2:Ov X es u)
  (hs:(Č (e::es) X.env).map (·.2)=assign e X.env::(Č es X.env).map (·.2):=by rfl):Ov X (e::es) (V8 t u):=by
 intro pins s Y H vs us Q I r h;obtain⟨v,vr,e1,h⟩:=h;subst e1;cases r with
 |cons r rr=>
  rw[hs];refine assignInOrder_cons (c7 (h1 pins s Y H _ _ _ I r h) λ_ s1 ⟨Y1,H1,I1,q1⟩=>?_);exact h2 pins s1 Y1 H1 _ _ Q I1 rr q1
def Zy (K:È)(n:Nat)(t:JP):TG:=λv Y H Q=>∃a xs,v=.ref a/\gR K H a xs/\xs.length=n/\t xs Y H Q
theorem S4 {es:List Æ}{k:Nat}{t:JP}(hc:X.calm=Z)(h:Ov X es t)(hn:(Č es X.env).length=n:=by rfl)(N1:(Č es X.env).findIdx? (·.1)=L:=by rfl):PG X (.Tuple es k pos) (Zy X.K n t):=by
 intro pins s Y H v u Q I r hw;obtain⟨a,xs,e1,hq,hl,hw⟩:=hw;subst e1;cases r;obtain⟨aH,rv,ht,hz⟩:=I.tuple hq;refine assign_Tuple_tuple (I.ok.hd hc) ht (by simp[hn,<-hl,rv.length]) N1 λh' hx=>?_;have I1:=I.kept (t':=s.toks) λb o e=>hx b o (Þ (Ô e)) e;exact h pins _ Y H xs _ Q I1 (by lia) hw
def Zz (to ti:TE)(t:S3):TG:=λv Y H Q=>to Y H λo H1=>ti Y H1 λi H2=>t o i v H2 λH3=>Q Y H3
def S5 {o i:Æ}{to ti:TE}{t:S3}(ho:PE X o to)(hi:PE X i ti)(hs:V7 X t)
  (ha:∀v,assign (.Subscript o i pos) X.env v=(do
   let ov ←holding [v] (Í o X.env)
   let iv ←holding [v,ov] (Í i X.env)
   standAt pos
   holding [v,ov,iv] (setItem ov iv v)
   release [v,ov,iv] []):=by intro _;rfl):PG X (.Subscript o i pos) (Zz to ti t):=by
 intro pins s Y H v u Q I r h;refine Ã (õ (c7 (ho pins s Y H _ I h) λov s1 ⟨x,H1,I1,r1,q1⟩=>?_));refine Ã (õ (c7 (hi pins s1 Y H1 _ I1 q1) λiv s2 ⟨y,H2,I2,r2,q2⟩=>?_));refine Ã (wpAny_standAt (Ã (õ (c7 (hs pins s2 Y H2 x y v ov iv u _ I2 r1 r2 r q2) λ_ s3 ⟨H3,I3,q3⟩=>?_))));exact wpAny_release ⟨Y,H3,I3,q3⟩
def Hq (te:TE)(g:TG):TS:=λD Y H=>te Y H λx H1=>g x Y H1 D.nx
def C2 {e:Æ}{g:TG}(he:PE X e te)(hg:PG X tg g)(hs:swapsWithSole [tg] e pos.line X.env=pure M:=by rfl)(hw:swappedStores [tg] e X.env=pure L:=by rfl)(h1:(Č [tg] X.env).map (·.2)=[assign tg X.env]:=by rfl):PS X (.Assign [tg] e pos) (Hq te g):=by
 intro pins s Y H D I h;refine wpAny_Assign_stores (c7 (he pins s Y H _ I h) λv s1 ⟨x,H1,I1,r1,q1⟩=>?_) hs hw;rw[h1];exact c7 (hg pins s1 Y H1 x v _ I1 r1 q1) λ_ s2 q=>q
def C3 {e:Æ}(hN:X.N.Nodup)(hi:X.N[i]? = J x)(hx:JE X.env.scope x)(he:PE X e te)(hs:Ē e (J (.Name x pos')) pos.line X.env=pure M:=by rfl)(hf:X.fn x=Z\/X.env.scope.names.lookup x=J .local:=by first|exact .inl rfl|exact .inr rfl|assumption) :
  PS X (.Assign [.Name x pos'] e pos) (Hq te (xD i)):=by
 intro pins s Y H D I h;refine wpAny_Assign_Name (c7 (he pins s Y H _ I h) λv s1 ⟨y,H1,I1,r1,q1⟩=>?_) hs;exact AQ I1 hN hi hx r1 (λs2 I2=>⟨_,H1,I2,q1⟩) hf
end
section
variable {pos:Pos}
def JR (c:TT)(tb:TS):TS:=λD Y H=>∃W:Nat->St->Hp->Prop,(∃m,W m Y H)/\∀m Y H,W m Y H->
 c Y H λb H1=>if b=Z then ∃N:St->Hp->Prop,(∀Y' H',N Y' H'->∃m',m'<m/\W m' Y' H')/\tb {D with nx:=N,ct:=N,bk:=D.nx} Y H1 else D.nx Y H1
theorem AR {c:Æ}{tb:TS}(hp:ř (Ä X.prog X.w) X.A X.env X.xe)(hc:PT X c tc)(hb:tX X body tb):PS X (.While c body [] pos) (JR tc tb):=by
 intro pins s Y H D I h;obtain⟨W,⟨m0,w0⟩,turn⟩:=h;refine wpAny_While (codeAny_whileLoop (λn s'=>∃Y' H',aO X pins Y' H' s'/\W n Y' H') ?_ m0 ⟨Y,H,I,w0⟩);rintro n s1 ⟨Y1,H1,I1,w1⟩;refine œ hp (c7 (hc pins s1 Y1 H1 _ I1 (turn n Y1 H1 w1)) λb s2 ⟨H2,I2,q2⟩=>?_);cases b with
 |true=>
  obtain⟨N,hN,q2⟩:=q2;refine œ hp (c7 (hb pins s2 Y1 H2 _ I2 q2) λf s3 q3=>?_);cases f with
  |next=>
   obtain⟨Y3,H3,I3,n3⟩:=q3;obtain⟨m',hm,w3⟩:=hN Y3 H3 n3;exact⟨m',hm,Y3,H3,I3,w3⟩
  |cont=>
   obtain⟨Y3,H3,I3,n3⟩:=q3;obtain⟨m',hm,w3⟩:=hN Y3 H3 n3;exact⟨m',hm,Y3,H3,I3,w3⟩
  |brk=>exact q3
  |ret v=>exact q3
 |false=>
  exact Μ ⟨Y1,H2,I2,q2⟩
end
structure It where
 go:Nat->Hp->Prop
 yld:Nat->Hp->V->Hp->Prop
 stop:Nat->Hp->Prop
def sd (X:Cx)(pins:List (I×Obj))(H:Hp)(b:I):Prop:=
 H b=L/\b≠X.env.locals/\b∉X.fs/\(b∈X.ex\/X.s₀.heap.objs.size<=b)/\(∀x c,X.env.cells.lookup x=J c->c≠b)/\∀p∈X.pn++pins,p.1≠b
theorem aO.fpOk (I:aO X pins Y H s)(hb:s.heap.objs.size<=b)(hn:H' b=L):sd X pins H' b:=by
 refine⟨hn,ò (ď I.lt hb),I.nofs hb,.inr (ą I.sz hb),λx c e z=>?_,λp hp z=>?_⟩
 ·obtain⟨v,q⟩:=I.cell x c e;exact absurd (ď q.lt (by rw[z];exact hb)) (ĳ _)
 ·exact absurd (ď (Ô (I.pin p hp).1) (by rw[z];exact hb)) (ĳ _)
structure yT (P:ó)(w:â)(K:È)(tg:Æ)(Jqq:It)(fp:List I)(it:I)(tn:Nat->É->Prop):Prop where
 mem:it∈fp
 obj:∀i h,tn i h->∀b∈fp,∃o,h.get? b=J o/\∀v,o.data≠.cell v
 keep:∀i h h',tn i h->(∀b∈fp,∀o,h.get? b=J o->h'.get? b=J o)->tn i h'
 item:∀(X:Cx),X.prog=P->X.w=w->X.K=K->X.calm=Z->∀(i:Nat) (pins:List (I×Obj)) (s:À) (Y:St) (H:Hp) (E:d->À->Prop),aO X pins Y H s->(∀b∈fp,sd X pins H b)->tn i s.heap->Jqq.go i H->
  Á (Ä P w) X.A (pyNext (.ref it)) (λr s1=>∃u,r=J u/\
   Á (Ä P w) X.A (letOwnedTupleGo tg (.ref it) u) (λ_ s2=>∃x H',aO X pins Y H' s2/\aX x u/\Jqq.yld i H x H'/\tn (i+1) s2.heap/\∀b∈fp,H' b=L) E s1) E s
 done:∀(X:Cx),X.prog=P->X.w=w->X.K=K->X.calm=Z->∀(i:Nat) (pins:List (I×Obj)) (s:À) (Y:St) (H:Hp) (E:d->À->Prop),aO X pins Y H s->(∀b∈fp,sd X pins H b)->tn i s.heap->Jqq.stop i H->
  Á (Ä P w) X.A (pyNext (.ref it)) (λr s1=>r=L/\aO X pins Y H s1) E s
 self:∀(A:Ð) (i:Nat) (s:À) (Q:d->À->Prop) (E:d->À->Prop),tn i s.heap->Q (.ref it) s->Á (Ä P w) A (pyIter (.ref it)) Q E s
abbrev TI:=St->Hp->(It->Hp->Prop)->Prop
def PIE (X:Cx)(pins:List (I×Obj))(Y:St)(tg:Æ)(R:It->Hp->Prop)(Ze:d)(s2:À):Prop:=
 ∃(it:I) (fp:List I) (tn:Nat->É->Prop) (Jqq:It) (H':Hp),Ze=.ref it/\aO X pins Y H' s2/\yT X.prog X.w X.K tg Jqq fp it tn/\tn 0 s2.heap/\(∀b∈fp,sd X pins H' b)/\R Jqq H'
def PI (X:Cx)(tg iter:Æ)(wi:TI):Prop:=
 ∀(pins:List (I×Obj)) (s:À) (Y:St) (H:Hp) (R:It->Hp->Prop),aO X pins Y H s->wi Y H R->
  Á (Ä X.prog X.w) X.A (Í iter X.env) (λv s1=>Á (Ä X.prog X.w) X.A (pyIter v) (PIE X pins Y tg R) X.xe s1) X.xe s
theorem Fh {A:Ð}{u:d}{o:Obj}{n:String}{vs:Array d}{Q:Unit->À->Prop}(ho:s.heap.get? it=J o)(hc:o.cls=.type n)(hd:o.data=.fields vs)(hn:["enumerate","zip","dict_itemiterator","dict_reverseitemiterator","odict_iterator","itertools.zip_longest","itertools.pairwise"].contains n=M)(hQ:Q () s):Á Mqq A (letOwnedTupleGo tg (.ref it) u) Q E s:=by
  cases tg<;>first
    |exact Â hQ
    | (cases u<;>first
        |exact Â hQ
        | (refine t (wpAny_load ho ?_)
           rw[hc,hd];show Á Mqq A (if (["enumerate","zip","dict_itemiterator","dict_reverseitemiterator","odict_iterator","itertools.zip_longest","itertools.pairwise"].contains n&&vs[0]? == J _)=Z then _ else _) Q E s;rw[hZ (by intro h;rw[hn] at h;cases h)];exact Â hQ))
noncomputable def YU (K:È)(a:I):It:=
 ⟨λi H=>∃xs x,fG K H a xs/\xs[i]? = J x,λi H x H'=>H'=H/\∀xs,fG K H a xs->xs[i]? = J x,λi H=>∃xs,fG K H a xs/\xs.length<=i⟩
noncomputable def ZC (K:È)(a:I):It:=
 ⟨λi H=>∃xs x,gR K H a xs/\xs[i]? = J x,λi H x H'=>H'=H/\∀xs,gR K H a xs->xs[i]? = J x,λi H=>∃xs,gR K H a xs/\xs.length<=i⟩
noncomputable def V9 (lo:Int)(n:Nat):It:=⟨λi _=>i<n,λi H x H'=>H'=H/\x=.int (lo+i),λi _=>n<=i⟩
theorem Hr (a it:Ý):yT P w K tg (YU K a) [it] it (λi h=>h.IsListIter it a i) where
 mem:=by simp
 obj:=λi h st b hb=>by
  have e:=by simpa using hb
  subst e;obtain⟨o,e,c,d⟩:=st;grind
 keep:=λi h h' st k=>st.at λo e=>k it (by simp) o e
 item:=by
  intro X hP hw hK hc i pins s Y H E I hf st hg;subst hP hw hK;obtain⟨xs,x,hq,hx⟩:=hg;obtain⟨aH,rv,p,hz⟩:=I.list hq;obtain⟨u,hu,ru⟩:=rv.get hx;obtain⟨f0,f1,f2,f3,f4,f5⟩:=hf it (by simp);refine wpAny_pyNext_list_item st p.isList (by simpa using hu) λh' b9 sb=>?_;have I1:=I.turned (t':=s.toks) (λb o hb e=>(sb.2 b hb).trans e) f0 f1 f3 f4 f5;obtain⟨o,e,c,d⟩:=id b9;exact⟨u,rfl,Fh e c d (by decide) ⟨x,H,I1,ru,⟨rfl,λys hy=>by rw[I.list_inj hy hq];exact hx⟩,b9,λb hb=>(hf b hb).1⟩⟩
 done:=by
  intro X hP hw hK hc i pins s Y H E I hf st hg;subst hP hw hK;obtain⟨xs,hq,hx⟩:=hg;obtain⟨aH,rv,p,hz⟩:=I.list hq;obtain⟨f0,f1,f2,f3,f4,f5⟩:=hf it (by simp);have hl:=rv.length;exact wpAny_pyNext_list_end (I.ok.hd hc) st p.isList (by simp;lia) λh' eb=>⟨rfl,I.turned (λb o hb e=>eb b o hb e) f0 f1 f3 f4 f5⟩
 self:=λ_ _ _ _ _ st h=>wpAny_pyIter_listiter st h
theorem C4 (a it:Ý):yT P w K tg (ZC K a) [it] it (λi h=>h.IsTupleIter it a i) where
 mem:=by simp
 obj:=λi h st b hb=>by
  have e:=by simpa using hb
  subst e;obtain⟨o,e,c,d⟩:=st;grind
 keep:=λi h h' st k=>st.at λo e=>k it (by simp) o e
 item:=by
  intro X hP hw hK hc i pins s Y H E I hf st hg;subst hP hw hK;obtain⟨xs,x,hq,hx⟩:=hg;obtain⟨aH,rv,p,hz⟩:=I.tuple hq;obtain⟨u,hu,ru⟩:=rv.get hx;obtain⟨f0,f1,f2,f3,f4,f5⟩:=hf it (by simp);refine wpAny_pyNext_tuple_item st (p) (by simpa using hu) λh' b9 sb=>?_;have I1:=I.turned (t':=s.toks) (λb o hb e=>(sb.2 b hb).trans e) f0 f1 f3 f4 f5;obtain⟨o,e,c,d⟩:=id b9;exact⟨u,rfl,Fh e c d (by decide) ⟨x,H,I1,ru,⟨rfl,λys hy=>by rw[I.tuple_inj hy hq];exact hx⟩,b9,λb hb=>(hf b hb).1⟩⟩
 done:=by
  intro X hP hw hK hc i pins s Y H E I hf st hg;subst hP hw hK;obtain⟨xs,hq,hx⟩:=hg;obtain⟨aH,rv,p,hz⟩:=I.tuple hq;obtain⟨f0,f1,f2,f3,f4,f5⟩:=hf it (by simp);have hl:=rv.length;exact wpAny_pyNext_tuple_end (I.ok.hd hc) st (p) (by simp;lia) λh' eb=>⟨rfl,I.turned (λb o hb e=>eb b o hb e) f0 f1 f3 f4 f5⟩
 self:=λ_ _ _ _ _ st h=>wpAny_pyIter_tupleiter st h
theorem C5 (it:Ý)(lo:Int)(n:Nat):yT P w K tg (V9 lo n) [it] it (λi h=>IsRangeIter h it (lo+(i:Nat)*1) ((n:Int)-(i:Nat)) 1) where
 mem:=by simp
 obj:=λi h st b hb=>by
  grind
 keep:=λi h h' st k=>k it (by simp) _ st
 item:=by
  intro X hP hw hK hc i pins s Y H E I hf st hg;subst hP hw hK;obtain⟨f0,f1,f2,f3,f4,f5⟩:=hf it (by simp);have W:=Walks.range (prog:=X.prog) (w:=X.w) (I.ok.hd hc) it lo 1 n;refine W.item i s _ _ hg st λv h' tk hv b9 kk=>?_;obtain⟨t,rfl⟩:=hv;have I1:aO X pins Y H {s with heap:=h',toks:=tk}:=I.turned (λb o hb e=>kk b o (by simpa using hb) e) f0 f1 f3 f4 f5;refine⟨_,rfl,Fh b9 rfl rfl (by decide) ⟨.int _,H,I1,⟨t,?_⟩,⟨rfl,rfl⟩,b9,λb hb=>(hf b hb).1⟩⟩;lia
 done:=by
  intro X hP hw hK hc i pins s Y H E I hf st hg;obtain⟨f0,f1,f2,f3,f4,f5⟩:=hf it (by simp);exact wpAny_pyNext_range_end (I.ok.hd hc) st (by have:n<=i:=hg;lia) λh' eb=>⟨rfl,I.turned (λb o hb e=>eb b o hb e) f0 f1 f3 f4 f5⟩
 self:=λ_ _ _ _ _ st h=>wpAny_pyIter_rangeiter st h
end L2
variable {wi:L2.TI}
namespace L2
def V_ (K:È)(tl:TE):TI:=λY H R=>tl Y H λx H1=>∃a,x=.ref a/\(∃xs,fG K H1 a xs)/\R (YU K a) H1
def ZD (K:È)(tl:TE):TI:=λY H R=>tl Y H λx H1=>∃a,x=.ref a/\(∃xs,gR K H1 a xs)/\R (ZC K a) H1
theorem Oy {l:Æ}{tl:TE}(hl:PE X l tl):PI X tg l (V_ X.K tl):=by
 intro pins s Y H R I h;refine c7 (hl pins s Y H _ I h) λv s1 ⟨x,H1,I1,r1,q1⟩=>?_;obtain⟨a,e,⟨xs,hq⟩,q⟩:=q1;subst e;cases r1;obtain⟨aH,rv,p,hz⟩:=I1.list hq;refine Κ p.isList ?_;refine⟨s1.heap.objs.size,[s1.heap.objs.size],_,_,H1,rfl,I1.kept λb o e=>Ó _ e,Hr a _,⟨_,Ü _ rfl,rfl,rfl⟩,λb hb=>?_,q⟩;have e:=by simpa using hb
 subst e;exact I1.fpOk (Ñ _) (I1.hok.fresh (Ñ _))
theorem S6 {l:Æ}{tl:TE}(hl:PE X l tl):PI X tg l (ZD X.K tl):=by
 intro pins s Y H R I h;refine c7 (hl pins s Y H _ I h) λv s1 ⟨x,H1,I1,r1,q1⟩=>?_;obtain⟨a,e,⟨xs,hq⟩,q⟩:=q1;subst e;cases r1;obtain⟨aH,rv,p,hz⟩:=I1.tuple hq;refine wpAny_pyIter_tuple (show s1.heap.IsTuple a _ from p) ?_;refine⟨s1.heap.objs.size,[s1.heap.objs.size],_,_,H1,rfl,I1.kept λb o e=>Ó _ e,C4 a _,⟨_,Ü _ rfl,rfl,rfl⟩,λb hb=>?_,q⟩;have e:=by simpa using hb
 subst e;exact I1.fpOk (Ñ _) (I1.hok.fresh (Ñ _))
theorem AS {R:It->Hp->Prop}{lo hi:Int}{t u v:Tok}{tk:Nat}(I:aO X pins Y H s)(h1 : -(2 ^ 62)<=lo)(h2:lo<2 ^ 62)(h3 : -(2 ^ 62)<=hi)(h4:hi<2 ^ 62)(q:R (V9 lo (hi-lo).toNat) H):Á (Ä X.prog X.w) X.A (pyIter (.ref s.heap.objs.size)) (PIE X pins Y tg R) E {s with heap:=s.heap.push {cls:=.type "range",data:=.fields #[.int lo t,.int hi u,.int 1 v]},toks:=tk}:=by
 refine wpAny_pyIter_range (IsRange.new ..) (small_one h1 h2 h3 h4) ?_;have I1:aO X pins Y H {s with heap:=s.heap.push {cls:=.type "range",data:=.fields #[.int lo t,.int hi u,.int 1 v]},toks:=tk}:=I.kept λb o e=>Ó _ e;refine⟨(s.heap.push _).objs.size,[(s.heap.push _).objs.size],_,_,H,rfl,
  I1.kept λb o e=>Ó _ e,C5 _ lo _,?_,λb hb=>?_,q⟩
 ·have e1:lo+((0:Nat):Int)*1=lo:=by simp
  have e2:(((hi-lo).toNat:Nat):Int)-((0:Nat):Int)=Builtin.Range.rangeSize lo hi 1:=by rw[rangeSize_one];split<;>lia
  rw[e1,e2];exact Ü _ rfl
 ·have e:b=(s.heap.push {cls:=.type "range",data:=.fields #[.int lo t,.int hi u,.int 1 v]}).objs.size:=by simpa using hb
  subst e;exact I1.fpOk (Ñ _) (I1.hok.fresh (Ñ _))
def Wa (ta:TA):TI:=λY H R=>ta Y H λvs H1=>∃j:Int,vs=[.int j]/\ -(2 ^ 62)<=j/\j<2 ^ 62/\R (V9 0 j.toNat) H1
def Wb (ta:TA):TI:=λY H R=>ta Y H λvs H1=>∃i j:Int,vs=[.int i,.int j]/\(-(2 ^ 62)<=i/\i<2 ^ 62/\ -(2 ^ 62)<=j/\j<2 ^ 62)/\R (V9 i (j-i).toNat) H1
theorem Hs {a:Æ}{p pos:Pos}(hg:Gl X "range")(hm:X.mg "range"=L)(ha:PA X [a] ta)(hs:Î [a] X.env=[(M,Í a X.env)]:=by rfl):PI X tg (.Call (.Name "range" p) [a] [] pos) (Wa ta):=by
 intro pins s Y H R I h;refine Call_ (kg I hg hm boot_range (š (c7 (ha pos pins s Y H _ I h) λus s1 ⟨vs,H1,I1,r1,q1⟩=>?_) hs rfl));obtain⟨j,e,q1,q2,q⟩:=q1;subst e;cases r1 with
 |cons r rr=>
  cases rr;obtain⟨t,rfl⟩:=r;exact call_range_1 (AS I1 (by lia) (by lia) q1 q2 (by simpa using q))
theorem Ht {a b:Æ}{p pos:Pos}(hg:Gl X "range")(hm:X.mg "range"=L)(ha:PA X [a,b] ta)(hs:Î [a,b] X.env=[(M,Í a X.env),(M,Í b X.env)]:=by rfl)(pG:Î [b] X.env=[(M,Í b X.env)]:=by rfl) :
  PI X tg (.Call (.Name "range" p) [a,b] [] pos) (Wb ta):=by
 intro pins s Y H R I h;refine Call_ (kg I hg hm boot_range (š (c7 (ha pos pins s Y H _ I h) λus s1 ⟨vs,H1,I1,r1,q1⟩=>?_) (by rw[hs,pG]) (by rw[pG];rfl)));obtain⟨i,j,e,⟨q1,q2,q3,q4⟩,q⟩:=q1;subst e;cases r1 with
 |cons r rr=>
  cases rr with
  |cons r' rr=>
   cases rr;obtain⟨t,rfl⟩:=r;obtain⟨t',rfl⟩:=r';exact call_range_2 (AS I1 q1 q2 q3 q4 q)
def ZE (wi:TI)(g:TG)(tb:TS):TS:=λD Y H=>wi Y H λJqq H1=>∃W:Nat->Nat->St->Hp->Prop,(∃m,W 0 m Y H1)/\∀i m Y H,W i m Y H->
 (Jqq.stop i H/\D.nx Y H)\/(Jqq.go i H/\∃N:St->Hp->Prop,(∀Y' H',N Y' H'->∃m',m'<m/\W (i+1) m' Y' H')/\∀x H',Jqq.yld i H x H'->g x Y H' λY2 H2=>tb {D with nx:=N,ct:=N,bk:=D.nx} Y2 H2)
noncomputable def yU (fp:List I)(h:É):List (I×Obj):=fp.filterMap λb=>(h.get? b).map λo=>(b,o)
def jr {o:Obj}(hb:b∈fp)(e:h.get? b=J o):(b,o)∈yU fp h:=List.mem_filterMap.mpr ⟨b,hb,by rw[e];rfl⟩
theorem Hu {p:I×Obj}(hp:p∈yU fp h):p.1∈fp/\h.get? p.1=J p.2:=by
 obtain⟨b,hb,e⟩:=List.mem_filterMap.mp hp;cases q:h.get? b with
 |none=>grind
 |some o=>
  grind
theorem aO.pinned (I:aO X pins Y H s)(hf:∀b∈fp,sd X pins H b)(ho:∀b∈fp,∃o,s.heap.get? b=J o/\∀v,o.data≠.cell v):aO X (pins++yU fp s.heap) Y H s:=
 I.pins_of λp hp=>(ı.mp hp).elim (λz=>I.pin p (ĉ _ z)) λz=>by
  obtain⟨hb,e⟩:=Hu z;obtain⟨f0,f1,f2,_⟩:=hf p.1 hb;grind
def aO.unpinned {pl:List (Ý×Obj)}(I:aO X (pins++pl) Y H s):aO X pins Y H s:=I.pins_of λp hp=>I.pin p (ĉ _ (Ł _ hp))
theorem S7 {g:TG}{tb:TS}{pos:Pos}(hp:ř (Ä X.prog X.w) X.A X.env X.xe)(hc:X.calm=Z)(hi:PI X tg iter wi)(hg:PG X tg g)(hb:tX X body tb)(hs:∀x,ĭ iter X.env x=pure x:=by intro _;rfl):PS X (.For tg iter body [] pos) (ZE wi g tb):=by
 intro pins s Y H D I h;refine wpAny_For (c7 (hi pins s Y H _ I h) λv s1 h1=>c7 h1 λZe s2 h2=>?_) hs;obtain⟨it,fp,tn,Jqq,H2,e,I2,T,nB,f2,W,⟨m0,w0⟩,turn⟩:=h2;subst e;have Va:∀{H':Hp},(∀b∈fp,H' b=L)->∀b∈fp,sd X pins H' b:=λhn b hb=>⟨hn b hb,(f2 b hb).2⟩;refine codeAny_forLoop_any (λn s'=>∃i Y' H',aO X pins Y' H' s'/\tn i s'.heap/\(∀b∈fp,H' b=L)/\W i n Y' H') ?_ m0 ⟨0,Y,H2,I2,nB,λb hb=>(f2 b hb).1,w0⟩;rintro n s3 ⟨i,Y3,H3,I3,Vo,fr3,w3⟩;rcases turn i n Y3 H3 w3 with⟨stop,qn⟩|⟨go,N,hN,step⟩
 ·refine œ hp (c7 (T.done X rfl rfl rfl hc i pins s3 Y3 H3 X.xe I3 (Va fr3) Vo stop) λr s4 ⟨hr,I4⟩=>?_);subst hr;exact Μ ⟨Y3,H3,I4,qn⟩
 ·refine œ hp (c7 (T.item X rfl rfl rfl hc i pins s3 Y3 H3 X.xe I3 (Va fr3) Vo go) λr s4 ⟨u,hr,h4⟩=>?_);subst hr;refine œ hp (c7 h4 λ_ s5 ⟨x,H5,I5,r5,y5,st5,fr5⟩=>?_);have I5':=I5.pinned (Va fr5) (T.obj _ _ st5);refine œ hp (c7 (hg _ s5 Y3 H5 x u _ I5' r5 (step x H5 y5)) λ_ s6 ⟨Y6,H6,I6,q6⟩=>?_);refine œ hp (c7 (hb _ s6 Y6 H6 _ I6 q6) λf s7 q7=>?_);have again:∀{Y7:St} {H7:Hp},aO X _ Y7 H7 s7->N Y7 H7->∃m,m<n/\∃i Y' H',aO X pins Y' H' s7/\tn i _/\(∀b∈fp,H' b=L)/\W i m Y' H':=λ{Y7 H7} I7 n7=>by
   obtain⟨m',hm,w7⟩:=hN Y7 H7 n7;refine⟨m',hm,i+1,Y7,H7,I7.unpinned,T.keep _ _ _ st5 λb hb o e=>(I7.pin _ (ĉ _ (ĉ _ (jr hb e)))).1,λb hb=>?_,w7⟩;obtain⟨o,e,d⟩:=T.obj _ _ st5 b hb;exact (I7.pin _ (ĉ _ (ĉ _ (jr hb e)))).2.1
  cases f with
  |next=>obtain⟨Y7,H7,I7,n7⟩:=q7;exact again I7 n7
  |cont=>obtain⟨Y7,H7,I7,n7⟩:=q7;exact again I7 n7
  |brk=>obtain⟨Y7,H7,I7,q7⟩:=q7;exact⟨Y7,H7,I7.unpinned,q7⟩
  |ret v=>obtain⟨x7,Y7,H7,I7,r7,q7⟩:=q7;exact⟨x7,Y7,H7,I7.unpinned,r7,q7⟩
end L2
namespace L2
abbrev R2:=V->V->Hp->VK->Prop
def kh (X:Cx)(f:d->d->Sem d)(r:R2):Prop:=
 ∀(pins:List (I×Obj)) (s:À) (Y:St) (H:Hp) (x y:V) (v u:d) (Q:VK),aO X pins Y H s->aX x v->aX y u->r x y H Q->
  Á (Ä X.prog X.w) X.A (f v u) (EP X pins Y Q) X.xe s
def YV (X:Cx)(f:d->Sem d)(r:V->Hp->VK->Prop):Prop:=
 ∀(pins:List (I×Obj)) (s:À) (Y:St) (H:Hp) (x:V) (v:d) (Q:VK),aO X pins Y H s->aX x v->r x H Q->
  Á (Ä X.prog X.w) X.A (f v) (EP X pins Y Q) X.xe s
def eS (X:Cx)(f:d)(r:List V->Hp->VK->Prop):Prop:=
 ∀(pins:List (I×Obj)) (s:À) (Y:St) (H:Hp) (xs:List V) (us:List d) (Q:VK),aO X pins Y H s->aZ xs us->r xs H Q->
  Á (Ä X.prog X.w) X.A (call f us) (EP X pins Y Q) X.xe s
def Wc (r:R2)(ta tb:TE):TE:=λY H Q=>ta Y H λx H1=>tb Y H1 λy H2=>r x y H2 Q
def tUn (r:V->Hp->VK->Prop)(ta:TE):TE:=λY H Q=>ta Y H λx H1=>r x H1 Q
def rI (C:Int->Int->Prop)(g:Int->Int->V):R2:=λx y H Q=>∃i j,x=.int i/\y=.int j/\C i j/\Q (g i j) H
def Hv (g:Int->Int->V):R2:=λx y H Q=>∃i j,x=.int i/\y=.int j/\Q (g i j) H
def rU (g:Int->V):V->Hp->VK->Prop:=λx H Q=>∃i,x=.int i/\Q (g i) H
section
variable {a b c:Æ}{ta tb tc:TE}{pos:Pos}
def S8 (ha:PE X a ta)(hb:PE X b tb){R:V->V->Hp->Prop}(I:aO X pins Y H s)(h:ta Y H λx H1=>tb Y H1 λy H2=>R x y H2){f:d->d->Sem d}(hf:∀v u s2 x y H2,aO X pins Y H2 s2->aX x v->aX y u->R x y H2->Á (Ä X.prog X.w) X.A (f v u) Q X.xe s2) :
  Á (Ä X.prog X.w) X.A (Í a X.env) (λv s₁=>Á (Ä X.prog X.w) X.A (Í b X.env) (λu s₂=>Á (Ä X.prog X.w) X.A (f v u) Q X.xe s₂) X.xe s₁) X.xe s:=by
 refine c7 (ha pins s Y H _ I h) λv s1 ⟨x,H1,I1,r1,q1⟩=>?_;refine c7 (hb pins s1 Y H1 _ I1 q1) λu s2 ⟨y,H2,I2,r2,q2⟩=>?_;exact hf v u s2 x y H2 I2 r1 r2 q2
def Wd {op:Operator}{r:R2}(ho:kh X (ě op) r)(ha:PE X a ta)(hb:PE X b tb):PE X (.BinOp a op b pos) (Wc r ta tb):=by
 intro pins s Y H Q I h;exact wpAny_BinOp (S8 ha hb I h λv u s2 x y H2 I2 rx ry q=>ho pins s2 Y H2 x y v u Q I2 rx ry q)
def We {op:UnaryOp}{r:V->Hp->VK->Prop}(ho:YV X (unaryOp op) r)(ha:PE X a ta):PE X (.UnaryOp op a pos) (tUn r ta):=by
 intro pins s Y H Q I h;exact UnaryOp_ (c7 (ha pins s Y H _ I h) λv s1 ⟨x,H1,I1,r1,q1⟩=>ho pins s1 Y H1 x v Q I1 r1 q1)
theorem YW {f:d->d->Sem d}{C:Int->Int->Prop}{g:Int->Int->Int}
  (rule:∀(i j:Int) (t u:Tok) (s:À) (Q:d->À->Prop) (E:d->À->Prop),C i j->Q (.int (g i j) s.toks) {s with toks:=s.toks+1}->Á (Ä X.prog X.w) X.A (f (.int i t) (.int j u)) Q E s) :
  kh X f (rI C λi j=>.int (g i j)):=by
 intro pins s Y H x y v u Q I rx ry h;obtain⟨i,j,rfl,rfl,hc,q⟩:=h;obtain⟨t,rfl⟩:=rx;obtain⟨t',rfl⟩:=ry;exact rule i j t t' s _ _ hc ⟨.int _,H,I.tok _,⟨_,rfl⟩,q⟩
theorem Wf {f:d->d->Sem d}{g:Int->Int->Int}
  (rule:∀(i j:Int) (t u:Tok) (s:À) (Q:d->À->Prop) (E:d->À->Prop),Q (.int (g i j) s.toks) {s with toks:=s.toks+1}->Á (Ä X.prog X.w) X.A (f (.int i t) (.int j u)) Q E s) :
  kh X f (Hv λi j=>.int (g i j)):=by
 intro pins s Y H x y v u Q I rx ry h;obtain⟨i,j,rfl,rfl,q⟩:=h;obtain⟨t,rfl⟩:=rx;obtain⟨t',rfl⟩:=ry;exact rule i j t t' s _ _ ⟨.int _,H,I.tok _,⟨_,rfl⟩,q⟩
theorem S9 {f:d->d->Sem d}{g:Int->Int->Bool}
  (rule:∀(i j:Int) (t u:Tok) (s:À) (Q:d->À->Prop) (E:d->À->Prop),Q (.bool (g i j)) s->Á (Ä X.prog X.w) X.A (f (.int i t) (.int j u)) Q E s) :
  kh X f (Hv λi j=>.bl (g i j)):=by
 intro pins s Y H x y v u Q I rx ry h;obtain⟨i,j,rfl,rfl,q⟩:=h;obtain⟨t,rfl⟩:=rx;obtain⟨t',rfl⟩:=ry;exact rule i j t t' s _ _ ⟨.bl _,H,I,rfl,q⟩
def Wg (i j:Int):Prop:=0<=j/\j<=1000000/\i.natAbs<2 ^ 64
def Oz (i j:Int):Prop:=(-(2 ^ 64)<i/\i<2 ^ 64)\/(-(2 ^ 64)<j/\j<2 ^ 64)
theorem Oz.ok {i j:Int}(h:Oz i j):IntMulOk i j:=by
 rcases h with⟨h1,h2⟩|⟨h1,h2⟩
 ·exact .of_left (intBits_le_64 h1 h2)
 ·exact .of_right (intBits_le_64 h1 h2)
def S_:kh X (ě .Add) (Hv λi j=>.int (i+j)):=Wf λ_ _ _ _ _ _ _ q=>add_int q
def C6:kh X (ě .Sub) (Hv λi j=>.int (i-j)):=Wf λ_ _ _ _ _ _ _ q=>sub_int q
def de:kh X (ě .Mult) (rI Oz λi j=>.int (i*j)):=YW λ_ _ _ _ _ _ _ hc q=>mul_int q hc.ok
theorem ki:kh X (ě .Mod) (rI (λ_ j=>0<j) λi j=>.int (i % j)):=YW λi j _ _ _ _ _ hc q=>by
 exact mod_int' (by lia) (by rw[Int.fmod_eq_emod_of_nonneg i (by lia)];exact q)
def JS:kh X (ě .Pow) (rI Wg λi j=>.int (i ^ j.toNat)):=YW λ_ _ _ _ _ _ _ hc q=>pow_int_small hc.1 hc.2.1 hc.2.2 q
theorem unI {f:d->Sem d}{g:Int->Int}
  (rule:∀(i:Int) (t:Tok) (s:À) (Q:d->À->Prop) (E:d->À->Prop),Q (.int (g i) s.toks) {s with toks:=s.toks+1}->Á (Ä X.prog X.w) X.A (f (.int i t)) Q E s) :
  YV X f (rU λi=>.int (g i)):=by
 intro pins s Y H x v Q I rx h;obtain⟨i,rfl,q⟩:=h;obtain⟨t,rfl⟩:=rx;exact rule i t s _ _ ⟨.int _,H,I.tok _,⟨_,rfl⟩,q⟩
def Ta:YV X (unaryOp .USub) (rU λi=>.int (-i)):=unI λ_ _ _ _ _ q=>neg_int q
end
noncomputable def Wh:V->V->Bool
 | .non,.non=>Z|.non,.int _=>Z|.int _,.non=>Z|.non,.bl _=>Z|.bl _,.non=>Z|.non,.str _=>Z|.str _,.non=>Z
 | .int _,.int _=>Z|.bl _,.bl _=>Z|.str _,.str _=>Z|.byt _,.byt _=>Z
 | .int _,.str _=>Z|.str _,.int _=>Z|.bl _,.str _=>Z|.str _,.bl _=>Z
 |_,_=>M
def rEq:R2:=λx y H Q=>Wh x y=Z/\Q (.bl (decide (x=y))) H
def rNe:R2:=λx y H Q=>Wh x y=Z/\Q (.bl (!decide (x=y))) H
def s9 {i j:Int}:decide (V.int i=V.int j)=(i==j):=by
 rw[ļ];simp
def yV {i j:Bool}:decide (V.bl i=V.bl j)=(i==j):=by
 rw[ļ];simp
def s_ {i j:Str}:decide (V.str i=V.str j)=(i==j):=by
 rw[ļ];simp
theorem Fi {i j:Array UInt8}:decide (V.byt i=V.byt j)=(i.toList==j.toList):=by
 rw[ļ];simp
section
variable {a b c:Æ}{ta tb tc:TE}{pos:Pos}
theorem bx {Q:VK}{k k':Bool}(I:aO X pins Y H s)(q:Q (.bl k) H)(e:k=k'):EP X pins Y Q (.bool k') s:=by
 subst e;exact⟨.bl k,H,I,rfl,q⟩
theorem gS:kh X (ă .Eq) rEq:=by
 intro pins s Y H x y v u Q I rx ry h;obtain⟨hs,q⟩:=h;cases x with
 |non=>
  cases rx;cases y with
  |non=>cases ry;exact PySem.EqNone.eq_none_none (bx I q (by simp))
  |bl j=>cases ry;exact PySem.EqNone.eq_none_bool (bx I q (by simp))
  |int j=>obtain⟨t',rfl⟩:=ry;exact PySem.EqNone.eq_none_int (bx I q (by simp))
  |str j=>obtain⟨t',rfl⟩:=ry;exact PySem.EqNone.eq_none_str (bx I q (by simp))
  |_=>exact absurd (show M=Z from hs) í
 |bl i=>
  cases rx;cases y with
  |non=>cases ry;exact PySem.EqNone.eq_bool_none (bx I q (by simp))
  |bl j=>cases ry;exact eq_bool (bx I q yV)
  |str j=>obtain⟨t',rfl⟩:=ry;exact PySem.EqMixed.eq_bool_str (bx I q (by simp))
  |_=>exact absurd (show M=Z from hs) í
 |int i=>
  obtain⟨t,rfl⟩:=rx;cases y with
  |non=>cases ry;exact PySem.EqNone.eq_int_none (bx I q (by simp))
  |int j=>obtain⟨t',rfl⟩:=ry;exact eq_int (bx I q s9)
  |str j=>obtain⟨t',rfl⟩:=ry;exact PySem.EqMixed.eq_int_str (bx I q (by simp))
  |_=>exact absurd (show M=Z from hs) í
 |str i=>
  obtain⟨t,rfl⟩:=rx;cases y with
  |non=>cases ry;exact PySem.EqNone.eq_str_none (bx I q (by simp))
  |bl j=>cases ry;exact PySem.EqMixed.eq_str_bool (bx I q (by simp))
  |int j=>obtain⟨t',rfl⟩:=ry;exact PySem.EqMixed.eq_str_int (bx I q (by simp))
  |str j=>obtain⟨t',rfl⟩:=ry;exact eq_str (bx I q s_)
  |_=>exact absurd (show M=Z from hs) í
 |byt i=>
  obtain⟨t,rfl⟩:=rx;cases y with
  |byt j=>obtain⟨t',rfl⟩:=ry;exact PySem.W.eq_bytes (bx I q Fi)
  |_=>exact absurd (show M=Z from hs) í
 |_=>cases y<;>exact absurd (show M=Z from hs) í
theorem QT:kh X (ă .NotEq) rNe:=by
 intro pins s Y H x y v u Q I rx ry h;obtain⟨hs,q⟩:=h;cases x with
 |non=>
  cases rx;cases y with
  |non=>cases ry;exact PySem.EqNone.ne_none_none (bx I q (by simp))
  |bl j=>cases ry;exact PySem.EqNone.ne_none_bool (bx I q (by simp))
  |int j=>obtain⟨t',rfl⟩:=ry;exact PySem.EqNone.ne_none_int (bx I q (by simp))
  |str j=>obtain⟨t',rfl⟩:=ry;exact PySem.EqNone.ne_none_str (bx I q (by simp))
  |_=>exact absurd (show M=Z from hs) í
 |bl i=>
  cases rx;cases y with
  |non=>cases ry;exact PySem.EqNone.ne_bool_none (bx I q (by simp))
  |bl j=>cases ry;exact ne_bool (bx I q (congrArg not yV))
  |str j=>obtain⟨t',rfl⟩:=ry;exact PySem.EqMixed.ne_bool_str (bx I q (by simp))
  |_=>exact absurd (show M=Z from hs) í
 |int i=>
  obtain⟨t,rfl⟩:=rx;cases y with
  |non=>cases ry;exact PySem.EqNone.ne_int_none (bx I q (by simp))
  |int j=>obtain⟨t',rfl⟩:=ry;exact ne_int (bx I q (congrArg not s9))
  |str j=>obtain⟨t',rfl⟩:=ry;exact PySem.EqMixed.ne_int_str (bx I q (by simp))
  |_=>exact absurd (show M=Z from hs) í
 |str i=>
  obtain⟨t,rfl⟩:=rx;cases y with
  |non=>cases ry;exact PySem.EqNone.ne_str_none (bx I q (by simp))
  |bl j=>cases ry;exact PySem.EqMixed.ne_str_bool (bx I q (by simp))
  |int j=>obtain⟨t',rfl⟩:=ry;exact PySem.EqMixed.ne_str_int (bx I q (by simp))
  |str j=>obtain⟨t',rfl⟩:=ry;exact ne_str (bx I q (congrArg not s_))
  |_=>exact absurd (show M=Z from hs) í
 |byt i=>
  obtain⟨t,rfl⟩:=rx;cases y with
  |byt j=>obtain⟨t',rfl⟩:=ry;exact PySem.W.ne_bytes (bx I q (congrArg not Fi))
  |_=>exact absurd (show M=Z from hs) í
 |_=>cases y<;>exact absurd (show M=Z from hs) í
def QU:kh X (ă .Lt) (Hv λi j=>.bl (decide (i<j))):=S9 λ_ _ _ _ _ _ _ q=>lt_int q
def AU:kh X (ă .Gt) (Hv λi j=>.bl (decide (j<i))):=S9 λ_ _ _ _ _ _ _ q=>gt_int q
def Wi:kh X (ă .GtE) (Hv λi j=>.bl (decide (j<=i))):=S9 λ_ _ _ _ _ _ _ q=>ge_int q
theorem OA:kh X (ă .IsNot) (λx y H Q=>y=.non/\Q (.bl (!decide (x=.non))) H):=by
 intro pins s Y H x y v u Q I rx ry h;obtain⟨rfl,q⟩:=h;cases ry;refine isnot_none_gen (bx I q ?_);cases x<;>first
  | (rfl)
  | (obtain⟨t,rfl⟩:=rx;rfl)
theorem kh.or {f:d->d->Sem d}{r r':R2}(h:kh X f r)(h':kh X f r'):kh X f (λx y H Q=>r x y H Q\/r' x y H Q):=by
 intro pins s Y H x y v u Q I rx ry q;rcases q with q|q
 ·exact h pins s Y H x y v u Q I rx ry q
 ·exact h' pins s Y H x y v u Q I rx ry q
theorem bp (b:Æ)(h:op≠.In:=by decide)(h2:op≠.NotIn:=by decide):Ŗ op b=M:=by
 have e1:(op==CmpOp.In)=M:=by lia
 have e2:(op==CmpOp.NotIn)=M:=by lia
 cases b<;>simp[Ŗ,e1,e2]
def OB {r:R2}(ho:kh X (ă op) r)(ha:PE X a ta)(hb:PE X b tb)(hm:Ŗ op b=M):PE X (.Compare a [op] [b] pos) (Wc r ta tb):=by
 intro pins s Y H Q I h;exact wpAny_Compare1 (S8 ha hb I h λv u s2 x y H2 I2 rx ry q=>ho pins s2 Y H2 x y v u Q I2 rx ry q) hm
def Wj (t:TE):TT:=λY H Q=>t Y H λx H'=>∃k,x=.bl k/\Q k H'
theorem Fj {r:R2}(ho:kh X (ă op) r)(ha:PE X a ta)(hb:PE X b tb)(hm:Ŗ op b=M):PT X (.Compare a [op] [b] pos) (Wj (Wc r ta tb)):=by
 intro pins s Y H Q I h;refine wpAny_isTrue_Compare1 (c7 (ha pins s Y H _ I h) λv s1 ⟨x,H1,I1,r1,q1⟩=>c7 (hb pins s1 Y H1 _ I1 q1) λu s2 ⟨y,H2,I2,r2,q2⟩=>
  c7 (ho pins s2 Y H2 x y v u _ I2 r1 r2 q2) λc s3 ⟨z,H3,I3,r3,k,e,q3⟩=>?_) hm
 subst e;cases r3;exact ų ⟨H3,I3,q3⟩
def yW:(Å:Nat)<2 ^ 63:=by decide
theorem i7 {x:V}{us:List d}(r:aZ [x] us):∃u,us=[u]/\aX x u:=by
 cases r with
 |cons r1 r2=>cases r2;exact⟨_,rfl,r1⟩
theorem QV {x:V}{us:List d}(r:aZ [x,y] us):∃u w',us=[u,w']/\aX x u/\aX y w':=by
 cases r with
 |cons r1 r2=>
  cases r2 with
  |cons r3 r4=>cases r4;exact⟨_,_,rfl,r1,r3⟩
theorem AV:eS X (.builtin "abs") (λxs H Q=>∃i,xs=[.int i]/\Q (.int (if i<0 then -i else i)) H):=by
 intro pins s Y H xs us Q I r h;obtain⟨i,rfl,q⟩:=h;obtain⟨u,rfl,t,rfl⟩:=i7 r;exact call_abs_int λu tk=>⟨.int _,H,I.tok _,⟨_,rfl⟩,q⟩
theorem Hw (hc:X.calm=Z):eS X (.builtin "max") (λxs H Q=>∃i j,xs=[.int i,.int j]/\Q (.int (if j>i then j else i)) H):=by
 intro pins s Y H xs us Q I r h;obtain⟨i,j,rfl,q⟩:=h;obtain⟨u,w',rfl,⟨t,rfl⟩,⟨t',rfl⟩⟩:=QV r;refine max_two_ints (I.ok.hd hc) λh' tk k=>⟨_,H,I.kept k,?_,q⟩;by_cases hj:j>i
 ·rw[h_ hj,h_ hj];exact⟨_,rfl⟩
 ·rw[hZ hj,hZ hj];exact⟨_,rfl⟩
theorem Hx (hc:X.calm=Z):eS X (.builtin "min") (λxs H Q=>∃i j,xs=[.int i,.int j]/\Q (.int (if j<i then j else i)) H):=by
 intro pins s Y H xs us Q I r h;obtain⟨i,j,rfl,q⟩:=h;obtain⟨u,w',rfl,⟨t,rfl⟩,⟨t',rfl⟩⟩:=QV r;refine min_two_ints (I.ok.hd hc) λh' tk k=>⟨_,H,I.kept k,?_,q⟩;by_cases hj:j<i
 ·rw[h_ hj,h_ hj];exact⟨_,rfl⟩
 ·rw[hZ hj,hZ hj];exact⟨_,rfl⟩
def Wl (K:È)(x:V)(H:Hp)(n:Nat):Prop:=
 match x with
 | .str y=>y.length<=Å/\n=y.length
 | .byt y=>y.size<=Å/\n=y.size
 | .ref p=>(∃xs,fG K H p xs/\n=xs.length)\/∃xs,gR K H p xs/\n=xs.length
 |_=>False
theorem bQ:eS X (.builtin "len") (λxs H Q=>∃x n,xs=[x]/\Wl X.K x H n/\Q (.int n) H):=by
 intro pins s Y H xs us Q I r h;obtain⟨x,n,rfl,e,q⟩:=h;obtain⟨u,rfl,rx⟩:=i7 r;have hs:=Ĕ;cases x with
 |str y=>
  obtain⟨t,rfl⟩:=rx;obtain⟨hy,e'⟩:y.length<=Å/\n=y.length:=e;subst e';exact len_str (by lia) ⟨.int _,H,I.tok _,⟨_,rfl⟩,q⟩
 |byt y=>
  obtain⟨t,rfl⟩:=rx;obtain⟨hy,e'⟩:y.size<=Å/\n=y.size:=e;subst e';exact PySem.W.len_bytes (by lia) ⟨.int _,H,I.tok _,⟨_,rfl⟩,q⟩
 |ref p=>
  cases rx;have e' :=e;rcases e' with⟨xs,hx,e'⟩|⟨xs,hx,e'⟩
  ·subst e';obtain⟨aH,r',pl,hz⟩:=I.list hx;have iw:=r'.length;exact Calls.call_len_list pl.isList (by simp only[å];lia) ⟨.int _,H,I.tok _,⟨_,by simp only[å];rw[iw]⟩,q⟩
  ·subst e';obtain⟨aH,r',pl,hz⟩:=I.tuple hx;have iw:=r'.length;exact len_tuple pl (by simp only[å];lia) ⟨.int _,H,I.tok _,⟨_,by simp only[å];rw[iw]⟩,q⟩
 |_=>exact (show False from e).elim
end
end L2
variable {r:L2.R2}
namespace L2
structure Hy (h:É)(x dx C:I)(mA:Str->Option d):Prop where
 obj:h.get? x=J (PySem.W.instObj C dx)
 ns:h.Ns1 dx mA
 ne:dx≠x
theorem Hz {dx:I}{mA:Str->Option d}(n:h.Ns1 dx mA):∃od,h.get? dx=J od/\∀name,PySem.W.lookIn name od=J (mA name):=by
 obtain⟨o,es,ep,ho,hd,hk,_,hm⟩:=n;refine⟨o,ho,λname=>?_⟩;have e:=hm name;unfold nsFind findBy at e;rw[<-Array.find?_toList] at e;unfold PySem.W.lookIn;rw[hd];dsimp only;split
 ·grind
 ·rename_i q;rw[q] at e;have a:es.toList.any (·.refKey)=M:=by
   rw[List.any_eq_false];intro y hy;obtain⟨z,t,QP⟩:=hk y (Array.mem_toList_iff.mp hy);simp[DictEntry.refKey,QP]
  grind
def Hy.look {x dx:Ý}{mA:Str->Option d}(I:Hy h x dx C mA):∃od,PySem.W.InstAt h x (PySem.W.instObj C dx) C (J od)/\∀name,PySem.W.lookIn name od=J (mA name):=
 let ⟨od,ho,hl⟩:=Hz I.ns
 ⟨od,⟨I.obj,rfl,rfl,ho⟩,hl⟩
section
variable {A:Ð}{x dx:I}{mA:Str->Option d}{name:Str}{v:d}
theorem OC {aaS:Bool}(X:K.In s.heap)(I:Hy s.heap x dx C mA)(hg:PySem.W.plainGet K C name=Z)(hh:PySem.W.hasDictIn K C=Z)(ha:ī K (.ref C) name=J L)(hv:mA name=J v)(hv':PySem.W.handedIn v=Z)(h:Q v {s with toks:=s.toks+1}) :
  Á (Ä prog w) A (getAttr (.ref x) name aaS) Q E s:=by
 obtain⟨od,Jqq,hl⟩:=I.look;exact PySem.W.get_value X Jqq (PySem.W.plainGet_of hg).1 (PySem.W.findObj_own hh ha rfl (by rw[hl,hv])) hv' h
theorem OD {ns:List Str}{Q:Unit->À->Prop}(X:K.In s.heap)(I:Hy s.heap x dx C mA)
  (hs:ī K (.ref C) "__setattr__"=J (J (.builtin "object.__setattr__"))) (hp:PySem.W.plainOver K C=Z) (ht:PySem.W.takerIn K C name=J L) (hh:PySem.W.hasDictIn K C=Z)
  (hw:PySem.Within mA ns) (hsz:ns.length<=Å)
  (h:∀h',Hy h' x dx C (λy=>if y=name then J v else mA y)->Ļ dx s.heap h'->Q () {s with heap:=h',toks:=s.toks+2}) :
  Á (Ä prog w) A (setAttr (.ref x) name v) Q E s:=by
 obtain⟨od,Jqq,hl⟩:=I.look;refine PySem.W.set_plain X Jqq hs (PySem.W.osa_open X Jqq hp ht λb=>?_);obtain⟨cd,hc,hd'⟩:=PySem.W.any_some hh;have hx:=I.obj;refine t (Â (t (t (wpAny_loadPart hx (t (PySem.W.Looks.here (PySem.W.looks_clsIn X hc) ?_))))));rw[hd'];refine Â (t (Â (t ?_)));refine wpAny_nsSet1 I.ns λh' SA pG=>?_;obtain⟨oD,esD,epD,hoD,hdD,hcD⟩:=SA.count (PySem.Within.cons name v hw);refine t (wpAny_lookBehind hoD (by grind[pastItsLine_dict,ą,Ù]) ?_);exact Â (h _ ⟨(pG.2 _ (Ne.symm I.ne)).trans I.obj,SA,I.ne⟩ pG)
def JT {R:Result->À->Prop}{vs:List d}(X:K.In s.heap)(hm:PySem.W.makesIn K C=Z)(hi:ī K (.ref C) "__init__"=J (J (.ref f)))(hf:PySem.W.typeIn K (.ref f)=J (.type "function"))(h:codeAny (Ä prog w) (A.under (.builtin "type.__call__" ⟨.ref C::vs,kw⟩)) (.call (.ref f) ⟨.ref (s.heap.objs.size+1)::vs,kw⟩) (PySem.W.InitBack (s.heap.objs.size+1) R)
   {s with heap:=(s.heap.push PySem.W.emptyDict).push (PySem.W.instObj C s.heap.objs.size)}) :
  codeAny (Ä prog w) A (.call (.ref C) ⟨vs,kw⟩) R s:=by
 exact PySem.W.make_core (PySem.W.makes_of X hm) (PySem.W.looks_findIn X hi) (λself=>PySem.W.bind_fn X self hf) (.inl rfl) h
end
noncomputable def iz (f:Str)(v:V):List (Str×V)->List (Str×V)
 | []=>[(f,v)]
 | (g,x)::r=>if g=f then (g,v)::r else (g,x)::iz f v r
theorem qO (f g:Str)(v:V):∀fs:List (Str×V),(iz f v fs).lookup g=if g=f then J v else fs.lookup g
 | []=>by
  show List.lookup g [(f,v)]=_;grind
 | (k,x)::r=>by
  have ih:=qO f g v r;rw[show iz f v _=(if k=f then (k,v)::r else (k,x)::iz f v r) from rfl];grind
theorem pL (f:Str)(v:V):∀fs:List (Str×V),f∈(iz f v fs).map (·.1)/\∀g,g∈fs.map (·.1)->g∈(iz f v fs).map (·.1)
 | []=>⟨by simp[iz],λg h=>by simp at h⟩
 | (k,x)::r=>by
  obtain⟨i1,i2⟩:=pL f v r;rw[show iz f v _=(if k=f then (k,v)::r else (k,x)::iz f v r) from rfl];grind
theorem qP (f:Str)(v:V):∀fs:List (Str×V),(iz f v fs).length<=fs.length+1
 | []=>by simp[iz]
 | (k,x)::r=>by
  have ih:=qP f v r;rw[show iz f v _=(if k=f then (k,v)::r else (k,x)::iz f v r) from rfl];grind
theorem lW.some_of {o:Option d}(r:lW (J v) o):∃u,o=J u/\aX v u:=by
 cases o with
 |none=>exact (show False from r).elim
 |some u=>exact⟨u,rfl,r⟩
theorem HA {u:d}(r:aX v u):PySem.W.handedIn u=Z:=by
 cases v with
 |non=>cases (r);rfl
 |bl b=>cases (r);rfl
 |int i=>obtain⟨t,e⟩:=(r);cases e;rfl
 |str x=>obtain⟨t,e⟩:=(r);cases e;rfl
 |byt b=>obtain⟨t,e⟩:=(r);cases e;rfl
 |flt b=>obtain⟨t,e⟩:=(r);cases e;rfl
 |ref a=>cases (r);rfl
 |ty n=>cases (r);rfl
section
variable {dx:I}{fs fs':List (Str×V)}
theorem Fl (hok:jZ P w H h)(e:H a=J (.ins C dx fs)):∃mA,Hy h a dx C mA/\(∀f,lW (fs.lookup f) (mA f))/\PySem.Within mA (fs.map (·.1))/\fs.length<=1000/\H dx=J (.own a):=by
 obtain⟨d,z,ne,ob,mA,n,r,q⟩:=(show c8 P w H h a _ from hok a _ e);exact⟨mA,⟨ob,n,ne⟩,r,q,z,d⟩
end
structure OE (K:È)(C:I):Prop where
 pg:PySem.W.plainGet K C Str.empty=Z
 hd:PySem.W.hasDictIn K C=Z
 po:PySem.W.plainOver K C=Z
 sa:ī K (.ref C) "__setattr__"=J (J (.builtin "object.__setattr__"))
def OE.get (c:OE K C)(f:Str):PySem.W.plainGet K C f=Z:=c.pg
def jt (K:È)(C:I)(f:Str):Prop:=ī K (.ref C) f=J L
def jt.taker {f:Str}(n:jt K C f):PySem.W.takerIn K C f=J L:=by
 unfold PySem.W.takerIn;rw[n];rfl
structure Con (K:È)(C:I)(f:Str)(v:V)(u:d):Prop where
 at_:ī K (.ref C) f=J (J u)
 rel:aX v u
 get:PySem.W.specialIn K u "__get__"=J L
 cp:PySem.W.copiedNames.contains f=M
structure acq (K:È)(C:I)(m:Str)(f:I):Prop where
 at_:ī K (.ref C) m=J (J (.ref f))
 fn:PySem.W.isFn K (.ref f)=Z
 kp:Ń K (.ref f)=Z
section
variable {dx:I}{fs:List (Str×V)}{f:Str}{A:Ð}
theorem C7 {b:Bool}(I:aO X pins Y H s)(e:H a=J (.ins C dx fs))(c:OE X.K C)(n:jt X.K C f)(l:fs.lookup f=J v)(h:∀u s',aO X pins Y H s'->aX v u->Q u s'):Á (Ä X.prog X.w) A (getAttr (.ref a) f b) Q E s:=by
 obtain⟨mA,O,r,_,_,_⟩:=Fl I.hok e;obtain⟨u,hu,ru⟩:=lW.some_of (by rw[<-l];exact r f);exact OC I.kIn O (c.get f) c.hd n hu (HA ru) (h u _ (I.tok _) ru)
theorem C8 {u:d}{Q:Unit->À->Prop}(I:aO X pins Y H s)(e:H a=J (.ins C dx fs))(c:OE X.K C)(n:jt X.K C f)(hl:fs.length<1000)(ry:aX y u)(h:∀s',aO X pins Y (bc H a (.ins C dx (iz f y fs))) s'->Q () s'):Á (Ä X.prog X.w) A (setAttr (.ref a) f u) Q E s:=by
 obtain⟨mA,O,r,wi,_,ho⟩:=Fl I.hok e;have hz:(fs.map (·.1)).length<=Å:=by rw[Ê,Ĕ];lia
 refine OD I.kIn O c.sa c.po n.taker c.hd wi hz λh' O' sb=>h _ ?_;have hd:∃o,h'.get? dx=J o:=let ⟨o,_,_,e',_⟩:=O'.ns;⟨o,e'⟩
 refine I.write (by rw[e];exact True.intro) (.inr ho) (λb q hb z=>(sb.2 b hb).trans z) hd ?_;refine⟨by rw[aG O.ne];exact ho,?_,O.ne,O'.obj,_,O'.ns,λg=>?_,λg hg=>?_⟩
 ·grind[qP]
 ·rw[qO];by_cases q:g=f
  ·rw[h_ q,h_ q];exact ry
  grind
 ·by_cases q:g=f
  ·grind[pL]
  ·refine (pL f y fs).2 g (wi g λz=>hg ?_);lia
def aO.made (I:aO X pins Y H s):aO X pins Y (bc (bc H s.heap.objs.size (.own (s.heap.objs.size+1))) (s.heap.objs.size+1) (.ins C s.heap.objs.size []))
  {s with heap:=(s.heap.push PySem.W.emptyDict).push (PySem.W.instObj C s.heap.objs.size)}:=by
 have e1:(s.heap.push PySem.W.emptyDict).get? _=J _:=Ü _ rfl;have e2:=by
  have:=Ü (s.heap.push PySem.W.emptyDict) (o:=PySem.W.instObj C s.heap.objs.size) rfl
  rwa [Ī] at this
 have e3:(s.heap.push _).Ns _ _:=⟨PySem.W.emptyDict,#[],_,e1,rfl,(λe he=>absurd he (by simp)),λ_=>rfl⟩;have I1:=I.laid (o:=.own (s.heap.objs.size+1)) (t':=s.toks) (λb u q=>Ó _ q) (Ñ _) ⟨_,e1⟩;refine I1.laid (λb u q=>Ó _ q) (Nat.le_of_eq (Ī _ _)) ?_;have ne:s.heap.objs.size≠s.heap.objs.size+1:=Þ (ζ _);refine⟨by rw[aG ne,aI],ė _,ne,e2,λ_=>L,(Heap.Ns1.of_empty e3).at λo q=>Ó _ q,λ_=>True.intro,λy hy=>absurd rfl hy⟩
def OF {e:Æ}{f:Str}{pos:Pos}(hb:Ħ e f env (Í e env)=Í e env)(h:Á (Ä prog w) A (Í e env) (λo s₁=>Á (Ä prog w) A (getAttr o f Z) Q E s₁) E s):Á (Ä prog w) A (Í (.Attribute e f pos) env) Q E s:=
 Attribute_any_ h (by rw[arm_eval_Attribute,hb])
end
def Wm (K:È)(ta:TE)(f:Str):TE:=λY H Q=>ta Y H λx H1=>∃a C dx fs v,x=.ref a/\H1 a=J (.ins C dx fs)/\OE K C/\jt K C f/\fs.lookup f=J v/\Q v H1
def JU (K:È)(ta tv:TE)(f:Str):TS:=λD Y H=>tv Y H λy H1=>ta Y H1 λx H2=>∃a C dx fs,x=.ref a/\H2 a=J (.ins C dx fs)/\OE K C/\jt K C f/\fs.length<1000/\
 D.nx Y (bc H2 a (.ins C dx (iz f y fs)))
section
variable {o e value:Æ}{f:Str}{pos tpos:Pos}{ta tv:TE}
theorem JV (he:PE X e ta)(hb:Ħ e f X.env (Í e X.env)=Í e X.env):PE X (.Attribute e f pos) (Wm X.K ta f):=by
 intro pins s Y H Q I h;refine OF hb (c7 (he pins s Y H _ I h) λu s1 ⟨x,H1,I1,rx,a,C,dx,fs,v,ex,ea,c,n,l,q⟩=>?_);subst ex;obtain rfl:u=Value.ref a:=rx;exact C7 I1 ea c n l λu' s2 I2 ru=>⟨v,H1,I2,ru,q⟩
theorem C9 (ha:PE X o ta)(hv:PE X value tv)(hs:Ē value (J (.Attribute o f pos')) pos.line X.env=pure M):PS X (.Assign [.Attribute o f pos'] value pos) (JU X.K ta tv f):=by
 intro pins s Y H D I h;refine plainObj_wpAny_Assign_Attribute (c7 (hv pins s Y H _ I h) λu s1 ⟨y,H1,I1,ry,q⟩=>c7 (ha pins s1 Y H1 _ I1 q) λov s2 ⟨x,H2,I2,rx,a,C,dx,fs,ex,ea,c,n,l,q2⟩=>?_) hs;subst ex;obtain rfl:ov=Value.ref a:=rx;exact C8 I2 ea c n l ry λs3 I3=>⟨Y,_,I3,q2⟩
end
section
variable {A:Ð}{c:d}{b:Bool}
inductive tY (K:È)(H:Hp):V->d->Prop where
 |non:tY K H .non (.type "NoneType")
 |bl (x:Bool):tY K H (.bl x) (.type "bool")
 |int (i:Int):tY K H (.int i) (.type "int")
 |str (x:Str):tY K H (.str x) (.type "str")
 |flt (x:UInt64):tY K H (.flt x) (.type "float")
 |lst {a:I} {xs:List V} (e:H a=J (.lst xs)):tY K H (.ref a) (.type "list")
 |frz {a:I} {o:Obj} {xs:List V} (e:H a=J (.frz o (.lst xs))):tY K H (.ref a) (.type "list")
 |tup {a:I} {xs:List V} (e:H a=J (.tup xs)):tY K H (.ref a) (.type "tuple")
 |dK {a:I} {aV:List (Key×V)} (e:H a=J (.dK aV)):tY K H (.ref a) (.type "dict")
 |dT {a:I} {aV:List (List Key×V)} (e:H a=J (.dT aV)):tY K H (.ref a) (.type "dict")
 |ins {a C dx:I} {fs:List (Str×V)} (e:H a=J (.ins C dx fs)) (cl:OE K C) (ha:ī K (.ref C) "__class__"=J (J (.builtin "object.__class__")))
   (hn:PySem.W.specialIn K (.builtin "object.__class__") "__get__"=J (J (.builtin "getset_descriptor.__get__"))) (htk:PySem.W.takesIn K (.builtin "object.__class__")=J Z)
   (hm:PySem.W.mroIn K C (.type "object")=J Z):tY K H (.ref a) (.ref C)
end
end L2
namespace L2
structure cX (k:Nat)(A:Ð):Prop where
 hd:A.handled=L
 dp:A.depth+3*k+5<recursionLimit
 un:A.units+16*k+200<Ò
theorem cX.mono {k:Nat}{A:Ð}(r:cX k A)(h:j<=k):cX j A:=⟨r.hd,by have:=r.dp;lia,by have:=r.un;lia⟩
theorem cX.deeper {k:Nat}{A:Ð}(r:cX (k+1) A)(env:Env):cX k (A.deeper env):=
 ⟨r.hd,by have:=r.dp;show A.depth+1+3*k+5<_;lia,by have:=r.un;show A.units+3+16*k+200<_;lia⟩
def C_ {A:Ð}{us:List d}:(A.under (.builtin "type.__call__" ⟨.ref C::us,kw⟩)).depth=A.depth+1:=by
 rfl
def Dd {A:Ð}{us:List d}:(A.under (.builtin "type.__call__" ⟨.ref C::us,kw⟩)).units=A.units+1:=by
 rfl
theorem cX.make {k:Nat}{A:Ð}(r:cX (k+1) A)(C:I)(us:List d)(kw:List (Str×d)):cX k (A.under (.builtin "type.__call__" ⟨.ref C::us,kw⟩)):=
 ⟨r.hd,by have:=r.dp;rw[C_];lia,by have:=r.un;rw[Dd];lia⟩
theorem cX.depth {k:Nat}{A:Ð}(r:cX k A):A.depth<recursionLimit:=by have:=r.dp;lia
theorem cX.units {k:Nat}{A:Ð}(r:cX k A):A.units+64<Ò:=by have:=r.un;lia
def AW:TA:=λ_ H Q=>Q [] H
def xF (ta:TE)(tr:TA):TA:=λY H Q=>ta Y H λx H1=>tr Y H1 λxs H2=>Q (x::xs) H2
section
variable {e:Æ}{es:List Æ}{t:TA}{pos:Pos}
def mF:PA X [] AW:=λ_ _ _ _ H Q I h=>Calls.spliced_nil ⟨[],H,I,.nil,h⟩
def gD (ha:PE X e te)(hr:PA X es t)(hs:Î (e::es) X.env=(M,Í e X.env)::Î es X.env:=by rfl):PA X (e::es) (xF te t):=by
 intro pos pins s Y H Q I h;rw[hs];refine ϊ (c7 (ha pins s Y H _ I h) λu s1 ⟨x,H1,I1,r1,q1⟩=>?_);exact c7 (hr pos pins s1 Y H1 _ I1 q1) λus s2 ⟨xs,H2,I2,r2,q2⟩=>⟨x::xs,H2,I2,.cons r1 r2,q2⟩
def Wn (t:TA):TE:=λY H Q=>t Y H λxs H1=>xs.length<=Å/\∀p,H1 p=L->Q (.ref p) (bc H1 p (.tup xs))
def Tb (t:TA):TE:=λY H Q=>t Y H λxs H1=>xs.length<=Å/\∀p,H1 p=L->Q (.ref p) (bc H1 p (.lst xs))
def JW {x1}(h:PA X es t):PE X (.Tuple es x1 pos) (Wn t):=by
 intro pins s Y H Q I hq;refine wpAny_Tuple_spliced (c7 (h pos pins s Y H _ I hq) λus s1 ⟨xs,H1,I1,r,z,q⟩=>⟨by rw[<-r.length];exact z,?_⟩);have hf:=I1.hok.fresh (Ñ _);refine⟨.ref _,bc H1 _ _,I1.laid (λb u e=>Ó _ e) (Ñ _) ?_,rfl,q _ hf⟩;exact⟨z,us,r,⟨_,Ü _ rfl,rfl,_,rfl⟩,_,Ü _ rfl⟩
def JX (h:PA X es t):PE X (.List es pos) (Tb t):=by
 intro pins s Y H Q I hq;refine wpAny_List_spliced (c7 (h pos pins s Y H _ I hq) λus s1 ⟨xs,H1,I1,r,z,q⟩=>⟨by rw[<-r.length];exact z,?_⟩);have hf:=I1.hok.fresh (Ñ _);refine⟨.ref _,bc H1 _ _,I1.laid (λb u e=>Ó _ e) (Ñ _) ?_,rfl,q _ hf⟩;exact⟨z,us,0,r,Ü _ rfl⟩
end
abbrev Sp:=List V->Hp->VK->XK->Prop
abbrev CXT:=List Env->Hp->À->XK->d->À->Prop
structure De (P:ó)(w:â)(K:È)(mg:Str->Option d)(base:É)(A:Ð)(outer:List Env)(s:À)(H:Hp):Prop where
 frames:A.frames=J outer
 mod:Mod K mg base
 bs:∀b o,base.get? b=J o->s.heap.get? b=J o/\H b=L
 bsz:base.objs.size<=s.heap.objs.size
 funs:s.heap.FunFrames base outer
 frf:∀b∈Ho outer,H b=L
 hok:jZ P w H s.heap
 bare:Ņ s.gens
def CE (outer:List Env)(P:ó)(w:â)(H:Hp)(s:À)(Q:VK)(u:d)(s':À):Prop:=
 ∃v H',s'.os=s.os/\Ņ s'.gens/\Un (Ho outer) [] H H' s.heap s'.heap/\jZ P w H' s'.heap/\aX v u/\Q v H'
def CR (CX:CXT)(outer:List Env)(P:ó)(w:â)(H:Hp)(s:À)(Q:VK)(E:XK)(r:Result)(s':À):Prop:=
 match r with
 | .ok (.ret u)=>CE outer P w H s Q u s'
 | .ok _=>False
 | .error e=>CX outer H s E e s'
structure gE (P:ó)(w:â)(K:È)(mg:Str->Option d)(base:É)(CX:CXT)(k:Nat)(f:I)(fd:ħ)(ps:List Str)(sp:Sp):Prop where
 len:∀vs H Q E,sp vs H Q E->vs.length=ps.length
 run:∀(A:Ð) (outer:List Env) (s:À) (H:Hp) (args:Args) (us:List d) (vs:List V) (Q:VK) (E:XK),cX k A->De P w K mg base A outer s H->BindsTo s fd args (ps.zip us)->aZ vs us->sp vs H Q E->
  codeAny (Ä P w) A (.call (.ref f) args) (CR CX outer P w H s Q E) s
theorem gE.imp {base:É}{CX:CXT}{k:Nat}{sp sp':Sp}(F:gE P w K mg base CX k f fd ps sp)(h:∀vs H Q E,sp' vs H Q E->sp vs H Q E):gE P w K mg base CX k f fd ps sp' :=
 ⟨λvs H Q E q=>F.len vs H Q E (h _ _ _ _ q),λA outer s H args us vs Q E hr he hb hv hs=>F.run A _ s H args us vs Q E hr he hb hv (h _ _ _ _ hs)⟩
def De.make {base:É}{A:Ð}{outer:List Env}(e:De P w K mg base A outer s H)(C:I)(us:List d)(kw:List (Str×d)) :
  De P w K mg base (A.under (.builtin "type.__call__" ⟨.ref C::us,kw⟩)) outer s H:=⟨by first|exact e.frames|(simpa [pushEnvs] using e.frames),e.mod,e.bs,e.bsz,e.funs,e.frf,e.hok,e.bare⟩
section
variable {s':À}
def aO.env0 (I:aO X pins Y H s):De X.prog X.w X.K X.mg X.base X.A X.stack s H:=
 ⟨I.ok.frames,I.ok.mod,I.bs,ą I.ok.bsz I.sz,I.stack,I.stkFree,I.hok,I.bare⟩
theorem aO.after {Q:VK}{u:Ì}(I:aO X pins Y H s)(h:CE X.stack X.prog X.w H s Q u s'):EP X pins Y Q u s':=by
 obtain⟨v,H',os,bare,un,hok,r,q⟩:=h;obtain⟨hh,g,d,t,os'⟩:=s';obtain rfl:os'=s.os:=os;exact⟨v,H',I.call un hok bare (λb z=>absurd z (by simp)),r,q⟩
end
def JY (sp:Sp)(E9:List V)(E:XK)(t:TA):TE:=λY H Q=>t Y H λvs H1=>sp (vs++E9) H1 Q E
def JZ (C:I)(sp:Sp)(E9:List V)(E:XK)(t:TA):TE:=λY H Q=>t Y H λvs H1=>∀x dx,H1 x=L->H1 dx=L->dx≠x->
 sp (.ref x::(vs++E9)) (bc (bc H1 dx (.own x)) x (.ins C dx [])) (λv H2=>v=.non/\Q (.ref x) H2) E
def j0 (K:È)(fd:ħ)(ps:List Str)(ds:List d):Prop:=
 ∀(s:À) (us:List d),K.In s.heap->(us++ds).length=ps.length->BindsTo s fd ⟨us,[]⟩ (ps.zip (us++ds))
def j0.all (h:∀us:List d,us.length=ps.length->ĵ fd ⟨us,[]⟩=pure (ps.zip us)):j0 K fd ps []:=λs us _ hl=>by
 rw[Ĝ] at hl |-;exact .of_eq (h us hl)
def pM (CX:CXT)(X:Cx)(E:XK):Prop:=∀(pins:List (I×Obj)) (Y:St) (H:Hp) (s:À) (e:d) (s':À),aO X pins Y H s->CX X.stack H s E e s'->X.xe e s'
section
variable {CX:CXT}{k:Nat}{sp:Sp}{E9:List V}{ds:List d}{E:XK}{m:Str}{p pos cO:Pos}{e o:Æ}{es:List Æ}{ta:TE}{t:TA}
theorem Tc {Q:VK}{us:List d}(F:gE X.prog X.w X.K X.mg X.base CX k f fd ps sp)(hr:cX k X.A)(hb:j0 X.K fd ps ds)(hd:aZ E9 ds)(hx:pM CX X E)(I:aO X pins Y H s)(r:aZ vs us)(h:sp (vs++E9) H Q E):Á (Ä X.prog X.w) X.A (call (.ref f) us) (EP X pins Y Q) X.xe s:=by
 have r2:=r.append hd;have hl:(us++ds).length=ps.length:=by rw[<-r2.length];exact F.len _ _ _ _ h
 refine wpAny_call (Ξ (F.run X.A _ s H _ _ _ Q E hr I.env0 (hb s us I.kIn hl) r2 h) λr s' hq=>?_);cases r with
 |error e=>exact hx pins Y H s e s' I hq
 |ok fl=>
  cases fl with
  |ret u=>exact I.after hq
  |next=>exact ĥ hq
  |brk=>exact ĥ hq
  |cont=>exact ĥ hq
def OG (F:gE X.prog X.w X.K X.mg X.base CX k f fd ps sp)(hr:cX k X.A)(hg:Gl X x)(hm:X.mg x=J (.ref f))(hk:Ń X.K (.ref f)=Z)(hb:j0 X.K fd ps ds)(hd:aZ E9 ds)(hx:pM CX X E)
  (ha:PA X (e::es) t) (qL:(x==("__debug__":Str))=M:=by decide) (he:Î (e::es) X.env=(M,Í e X.env)::Î es X.env:=by rfl) (nv:(ä pos (Î es X.env)).any (·.1)=M:=by rfl) :
  PE X (.Call (.Name x p) (e::es) [] pos) (JY sp E9 E t):=by
 intro pins s Y H Q I h;refine Œ (sY I hg hm ?_ qL);refine PySem.W.callWith_K I.ok.mod.kin hk (c7 (ha pos pins s Y H _ I h) λus s1 ⟨vs,H1,I1,r,q⟩=>⟨I1.kIn,?_⟩) he nv;exact Tc F hr hb hd hx I1 r q
structure Mk (K:È)(C f:I):Prop where
 makes:PySem.W.makesIn K C=Z
 init:ī K (.ref C) "__init__"=J (J (.ref f))
 fn:PySem.W.isFn K (.ref f)=Z
 kp:Ń K (.ref C)=Z
theorem AX {Q:VK}{us:List d}(Mqq:Mk X.K C f)(F:gE X.prog X.w X.K X.mg X.base CX k f fd ps sp)(hr:cX (k+1) X.A)(hb:j0 X.K fd ps ds)(hd:aZ E9 ds)(hx:pM CX X E)(I:aO X pins Y H s)(r:aZ vs us)(h:∀x dx,H x=L->H dx=L->dx≠x->sp (.ref x::(vs++E9)) (bc (bc H dx (.own x)) x (.ins C dx [])) (λv H2=>v=.non/\Q (.ref x) H2) E) :
  Á (Ä X.prog X.w) X.A (call (.ref C) us) (EP X pins Y Q) X.xe s:=by
 have hq:=h _ _ (I.hok.fresh (Nat.le_succ _)) (I.hok.fresh (Ñ _)) (Þ (ζ _));have I2:=aO.made (C:=C) I;have r2:aZ (V.ref (s.heap.objs.size+1)::(vs++E9)) _:=.cons rfl (r.append hd);have hl:=by
  have e:=r2.length;rw[F.len _ _ _ _ hq] at e;exact e.symm
 refine wpAny_call (JT I.kIn Mqq.makes Mqq.init (beq_iff_eq.mp Mqq.fn) (Ξ (F.run _ _ _ _ _ _ _ _ E (hr.make C us [])
  (I2.env0.make C us []) (hb _ _ I2.kIn hl) r2 hq) λr s' Yo=>?_))
 cases r with
 |error e=>exact hx pins Y _ _ e s' I2 Yo
 |ok fl=>
  cases fl with
  |ret u=>
   obtain⟨v,H',I3,rv,ev,q3⟩:=I2.after Yo;subst ev;exact⟨rv,⟨V.ref _,H',I3,rfl,q3⟩⟩
  |next=>exact ĥ Yo
  |brk=>exact ĥ Yo
  |cont=>exact ĥ Yo
def OH (Mqq:Mk X.K C f)(F:gE X.prog X.w X.K X.mg X.base CX k f fd ps sp)(hr:cX (k+1) X.A)(hg:Gl X x)(hm:X.mg x=J (.ref C))(hb:j0 X.K fd ps ds)(hd:aZ E9 ds)(hx:pM CX X E)
  (ha:PA X (e::es) t) (qL:(x==("__debug__":Str))=M:=by decide) (he:Î (e::es) X.env=(M,Í e X.env)::Î es X.env:=by rfl) (nv:(ä pos (Î es X.env)).any (·.1)=M:=by rfl) :
  PE X (.Call (.Name x p) (e::es) [] pos) (JZ C sp E9 E t):=by
 intro pins s Y H Q I h;refine Œ (sY I hg hm ?_ qL);refine PySem.W.callWith_K I.ok.mod.kin Mqq.kp (c7 (ha pos pins s Y H _ I h) λus s1 ⟨vs,H1,I1,r,q⟩=>⟨I1.kIn,?_⟩) he nv;exact AX Mqq F hr hb hd hx I1 r q
def J0 (Mqq:Mk X.K C f)(F:gE X.prog X.w X.K X.mg X.base CX k f fd ps sp)(hr:cX (k+1) X.A)(hg:Gl X x)(hm:X.mg x=J (.ref C))(hb:j0 X.K fd ps ds)(hd:aZ E9 ds)(hx:pM CX X E)
  (qL:(x==("__debug__":Str))=M:=by decide):PE X (.Call (.Name x p) [] [] pos) (JZ C sp E9 E AW):=by
 intro pins s Y H Q I h;refine Œ (sY I hg hm ?_ qL);exact PySem.W.callWith_K0 I.kIn Mqq.kp (AX Mqq F hr hb hd hx I .nil h)
end
section
variable {CX:CXT}{k:Nat}{ks:List Str}{sp:Sp}{E:XK}{m:Str}{p pos cO kpos:Pos}{e o:Æ}{es:List Æ}{kws:List ĕ}{ta:TE}{t tk:TA}{nm:Option Str}
structure ZF (K:È)(fd:ħ)(ps ks:List Str)(g:List d->List d->List d)(gV:List V->List V->List V):Prop where
 to:∀(s:À) (us ws:List d),K.In s.heap->(g us ws).length=ps.length->BindsTo s fd ⟨us,ks.zip ws⟩ (ps.zip (g us ws))
 rel:∀{vs:List V} {us:List d} {zs:List V} {ws:List d},aZ vs us->aZ zs ws->aZ (gV vs zs) (g us ws)
variable {g:List d->List d->List d}{gV:List V->List V->List V}
end
structure ay (N P:List Str)(sc:þ):Prop where
 kind:sc.kind=.function
 co:sc.isCoroutine=M
 gen:sc.isGenerator=M
 nd:N.Nodup
 pre:N.take P.length=P
 par:∀x∈P,sc.names.lookup x=J .local\/sc.names.lookup x=J .cell
 nofree:∀y∈sc.names,y.2≠.free
theorem xG {ć:Str->Option Ũ}{x:Str}:∀{binds:List (Str×d)} {m:Str->Option d},(∀v,(x,v)∉binds)->bindL ć binds m x=m x
 | [],_,_=>rfl
 | (n,v)::r,m,h=>by
  unfold bindL;rw[xG λw hw=>h w (Ö _ hw)];split
  ·grind
  ·rfl
theorem xH {ć:Str->Option Ũ}{x:Str}:∀{binds:List (Str×d)} {m:Str->Option d},(∀v,(x,v)∉binds)->bindC ć binds m x=m x
 | [],_,_=>rfl
 | (n,v)::r,m,h=>by
  unfold bindC;rw[xH λw hw=>h w (Ö _ hw)];split
  ·rfl
  grind
theorem xI {ć:Str->Option Ũ}{x:Str}{v:d}:∀{P:List Str} {vs:List d} {i:Nat} {m:Str->Option d},P.Nodup->P[i]? = J x->vs[i]? = J v->ć x=J .local->
  bindL ć (P.zip vs) m x=J v
 | [],_,_,_,_,h,_,_=>by simp at h
 |_::_,[],_,_,_,_,h,_=>by simp at h
 |p::P,w::vs,0,m,nd,h1,h2,hk=>by
  simp at h1 h2;subst h1;subst h2;show bindL _ ((p,w)::P.zip vs) m p=_;unfold bindL;rw[xG λv hv=>(ø.mp nd).1 (ϙ hv).1,h_ hk];simp
 |p::P,w::vs,i+1,m,nd,h1,h2,hk=>by
  unfold bindL;exact xI (ø.mp nd).2 (by simpa using h1) (by simpa using h2) hk
theorem xJ {ć:Str->Option Ũ}{x:Str}{v:d}:∀{P:List Str} {vs:List d} {i:Nat} {m:Str->Option d},P.Nodup->P[i]? = J x->vs[i]? = J v->ć x≠J .local->
  bindC ć (P.zip vs) m x=J v
 | [],_,_,_,_,h,_,_=>by simp at h
 |_::_,[],_,_,_,_,h,_=>by simp at h
 |p::P,w::vs,0,m,nd,h1,h2,hk=>by
  simp at h1 h2;subst h1;subst h2;show bindC _ ((p,w)::P.zip vs) m p=_;unfold bindC;rw[xH λv hv=>(ø.mp nd).1 (ϙ hv).1,hZ hk];simp
 |p::P,w::vs,i+1,m,nd,h1,h2,hk=>by
  unfold bindC;exact xJ (ø.mp nd).2 (by simpa using h1) (by simpa using h2) hk
noncomputable def f6 (N:List Str)(vs:List V):St:=vs.map J++ù (N.length-vs.length) L
noncomputable def j8 (CX:CXT)(P:ó)(w:â)(K:È)(mg:Str->Option d)(base:É)(N:List Str)(qual:Str)(scope:þ)(f:I)(cd:d)(A:Ð)(outer:List Env)(s:À)(H:Hp)(E:XK):Cx where
 prog:=P
 w:=w
 K:=K
 mg:=mg
 base:=base
 A:=A.deeper (ċ qual scope s.heap.objs.size f cd)
 N:=N
 s₀:=s
 H₀:=H
 env:=ċ qual scope s.heap.objs.size f cd
 outer:=outer
 stack:=ċ qual scope s.heap.objs.size f cd::outer
 ex:=[]
 calm:=Z
 fn:=λ_=>Z
 pn:=[]
 xe:=λe s'=>Á (Ä P w) (A.deeper (ċ qual scope s.heap.objs.size f cd)) (leaving (ċ qual scope s.heap.objs.size f cd) e) (λ_ VP=>CX outer H s E e VP) (λe' VP=>CX outer H s E e' VP) s'
def AY {sc:þ}(h:sc.names.lookup x=J .cell):∃c,(cellsFrom n sc.names []).lookup x=J c:=by
 have q:=PySem.W.cellsFrom_some _ n [] (.inl h);exact Option.isSome_iff_exists.mp q
theorem HB {CX:CXT}{base:É}{cd:d}{A:Ð}{outer:List Env}{s1:À}{E:XK}{us:List d}(S:ay N ps scope)(hd:A.handled=L)(e0:De P w K mg base A outer s H)(hl:vs.length=ps.length)(r:aZ vs us)(x:InCallC s s.heap.objs.size (bindL (ċ qual scope s.heap.objs.size f cd).kindOf (ps.zip us) λ_=>L) (cellsFrom (s.heap.objs.size+1) scope.names []) (bindC (ċ qual scope s.heap.objs.size f cd).kindOf (ps.zip us) λ_=>L) s1) :
  aO (j8 CX P w K mg base N qual scope f cd A outer s H E) [] (f6 N vs) H s1:=by
 have nv:ps.length<=N.length:=by have:=congrArg γ S.pre;grind
 obtain⟨h1,tk,rfl,hk⟩:=x.done;have Yp:∀b ,b∉(j8 CX P w K mg base N qual scope f cd A outer s H E).ex:=λb z=>absurd (show b∈([]:List I) from z) (by simp);refine⟨⟨e0.mod,S.kind,rfl,rfl,Ñ _,λy z c h1 h2=>?_,λy hy=>?_,λy c _ h=>?_,λ_=>hd,Around.frames_deeper e0.frames,.inr ⟨rfl,rfl⟩,λb z=>absurd z (Yp b),e0.bs,e0.bsz,λb _ _=>Yp b,λb z=>absurd z (Yp b),e0.funs,e0.frf⟩,
  rfl,e0.bare,Un.kept hk,⟨_,x.toInCall.ns,λi y v h1 h2 h3=>?_⟩,λy c h=>⟨_,x.cell y c h⟩,e0.hok.fresh (Ñ _),λy c h=>?_,λp hp=>absurd (show p∈([]:List _) from hp) (by simp),e0.hok.kept hk,?_⟩
 ·exact name_of_addr x.apart (Ĵ h1) (Ĵ h2)
 ·rcases hy with hy|hy
  ·exact AY hy
  ·exact absurd rfl (S.nofree _ (Ĵ hy))
 ·exact Š (x.above y c (Ĵ h))
 ·have hi:i<vs.length:=by
   unfold f6 at h2;by_cases hi:i<vs.length
   ·exact hi
   ·rw[Ϯ (by simpa using hi)] at h2;rw[List.getElem?_replicate] at h2;split at h2<;>cases h2
  have ha:vs[i]? = J v:=by
   unfold f6 at h2;rw[ŷ (by simpa using hi),ç] at h2;cases e:vs[i]? with
   |none=>rw[e] at h2;cases h2
   |some a=>rw[e] at h2;cases h2;rfl
  obtain⟨u,hu,rv⟩:=r.get ha;have hp:ps[i]? = J y:=by
   rw[<-S.pre,List.getElem?_take_of_lt (by lia)];exact h1
  have ndP:ps.Nodup:=by rw[<-S.pre];exact S.nd.sublist (List.take_sublist _ _)
  refine⟨u,rv,?_⟩;rcases S.par y (Ċ hp) with k|k
  ·exact .inl ⟨k,xI ndP hp hu k⟩
  ·obtain⟨c,e⟩:=AY k;refine .inr ⟨.inl k,c,e,?_⟩;have q:=x.cell y c e;rw[xJ ndP hp hu (by show scope.names.lookup y≠_;rw[k];decide)] at q;exact q
 ·exact e0.hok.fresh (Š (x.above y c (Ĵ h)))
 ·unfold f6;show _=N.length;grind
theorem Wo {CX:CXT}{base:É}{k:Nat}{name:Str}{params:Arguments}{dV kV ke pm cS ct oc:d}{an od:Option Ý}{SD:Array (Option d)}{sp:Sp}(lk:K.lookup f=J ⟨oc,od,.func (č name qual params body scope dV kV ke pm an cS ct),SD⟩)(jX:Ż K cS qual=Z)(S:ay N ps scope)(len:∀vs H Q E,sp vs H Q E->vs.length=ps.length)(fA:∀(A:Ð) (outer:List Env) (s:À) (H:Hp) (vs:List V) (Q:VK) (E:XK),cX k (A.deeper (ċ qual scope s.heap.objs.size f cS))->sp vs H Q E->
   ∃t,tX (j8 CX P w K mg base N qual scope f cS A outer s H E) body t/\t {nx:=λ_ H'=>Q .non H',rt:=Q} (f6 N vs) H) :
  gE P w K mg base CX (k+1) f (č name qual params body scope dV kV ke pm an cS ct) ps sp:=by
 refine⟨len,λA outer s H args us vs Q E hr e0 hb r SE=>?_⟩;have hl:=len _ _ _ _ SE;have KX:=e0.mod.kin.keeps λb o e=>(e0.bs b o e).1;have lim:=e0.mod.nolimit.keeps λb o e=>(e0.bs b o e).1;have Yq:∀y∈ps.zip us,scope.names.lookup y.1=J _\/(scope.names.lookup y.1=J _/\((cellsFrom (s.heap.objs.size+1) _ []).lookup y.1).isSome=Z):=fun⟨n,v⟩ hy=>by
  rcases S.par n (ϙ hy).1 with q|q
  ·exact .inl q
  ·exact .inr ⟨q,PySem.W.cellsFrom_some _ _ _ (.inl q)⟩
 refine codeAny_call_function hr.depth (KX _ _ lk) rfl S.co S.gen rfl (PySem.W.codeRec_of KX jX) (hb _ _ _ _ ?_);refine wpAny_newFunctionEnv_cells S.kind Yq λenv he s1 x=>?_;subst he;refine⟨lim.keeps x.toInCall.keep,codeAny_func ?_⟩;obtain⟨t,ht,hq⟩:=fA A _ s H vs Q E (hr.deeper _) SE;have I:aO (j8 CX P w K mg base N qual _ f cS A _ s H E) [] _ H s1:=HB S hr.hd e0 hl r x;refine ý (ht [] s1 _ H _ I hq) (λfl s' hs=>?_) λe s' hs=>hs;have fin:∀{Y':St} {H':Hp} {v:V} {u:d},aO (j8 CX P w K mg base N qual scope f cS A _ s H E) [] Y' H' s'->aX v u->Q v H'->CE outer P w H s Q u s' :=
  λ{Y' H' v u} Jqq rv q=>⟨v,H',Jqq.os,Jqq.bare,Jqq.base,Jqq.hok,rv,q⟩
 cases fl with
 |ret u=>
  obtain⟨v,Y',H',Jqq,rv,q⟩:=hs;exact fin Jqq rv q
 |next=>
  obtain⟨Y',H',Jqq,q⟩:=hs;exact fin (v:=V.non) Jqq rfl q
 |brk=>
  obtain⟨_,_,_,q⟩:=hs;exact ĥ q
 |cont=>
  obtain⟨_,_,_,q⟩:=hs;exact ĥ q
end L2
variable {CX:L2.CXT}{sp:L2.Sp}
namespace L2
section
variable {p pos:Pos}{e:Æ}{es:List Æ}{t:TA}{id:String}{r:List V->Hp->VK->Prop}
def ZH (r:List V->Hp->VK->Prop)(t:TA):TE:=λY H Q=>t Y H λvs H1=>r vs H1 Q
def AZ (hc:eS X (.builtin id) r)(hg:Gl X x)(hm:X.mg x=L)(hv:Ĉ x=J (.builtin id))(ha:PA X (e::es) t)(hn:x≠"__name__":=by decide)(qL:(x==("__debug__":Str))=M:=by decide)
  (he:Î (e::es) X.env=(M,Í e X.env)::Î es X.env:=by rfl) (nv:(ä pos (Î es X.env)).any (·.1)=M:=by rfl):PE X (.Call (.Name x p) (e::es) [] pos) (ZH r t):=by
 intro pins s Y H Q I h;refine Œ (kg I hg hm hv ?_ hn qL);exact PyProof.Rows.callWith_builtin1 (c7 (ha pos pins s Y H _ I h) λus s1 ⟨vs,H1,I1,r1,q1⟩=>hc pins s1 Y H1 vs us Q I1 r1 q1) he nv
def pN (hc:eS X (.type T) r)(hg:Gl X x)(hm:X.mg x=L)(hv:Ĉ x=J (.type T))(ha:PA X (e::es) t)(hn:x≠"__name__":=by decide)(qL:(x==("__debug__":Str))=M:=by decide)
  (he:Î (e::es) X.env=(M,Í e X.env)::Î es X.env:=by rfl) (nv:(ä pos (Î es X.env)).any (·.1)=M:=by rfl):PE X (.Call (.Name x p) (e::es) [] pos) (ZH r t):=by
 intro pins s Y H Q I h;refine Œ (kg I hg hm hv ?_ hn qL);exact š (c7 (ha pos pins s Y H _ I h) λus s1 ⟨vs,H1,I1,r1,q1⟩=>hc pins s1 Y H1 vs us Q I1 r1 q1) he nv
end
end L2
namespace HT
noncomputable def lexLt:List Int->List Int->Bool
 | [],[]=>M
 | [],_::_=>Z
 |_::_,[]=>M
 |x::xs,y::ys=>if x=y then lexLt xs ys else decide (x<y)
def lexLt_cons (x y:Int)(xs ys:List Int):lexLt (x::xs) (y::ys)=if x=y then lexLt xs ys else decide (x<y):=rfl
def J1 (A:Ð)(s:À)(a:Int)(t:Tok)(c:Int)(u:Tok):∃e,Ĭ A s (.int a t) (.int c u) e/\(e=Z↔a=c):=
 ⟨(a==c),SeqAt.EqAt.int_int a t c u,by simp⟩
def J2 (A:Ð)(s:À)(a:Int)(t:Tok)(c:Int)(u:Tok)(prog:ó)(w:â)(E:d->À->Prop)(Q:d->À->Prop)(h:Q (.bool (decide (a<c))) s) :
  Á (Ä prog w) A (richCompare .Lt (.int a t) (.int c u)) Q E s:=
 (PyProof.Rows.lt_int h:Á _ A _ Q E s)
section
open PySem.SeqAt
open PySem.AutoSeq1 (wpAny_loadPart')
open PySem.MeetsSeq PySem.MeetsSeq2 PySem.MeetsSeq3
theorem wX (l b:I)(items eE:Array Ì)(n n2:Nat)(dd Hh:Option I)(sl JL:Array (Option Ì))(ns ms:List Int)(hi:ü items.toList ns)(hj:ü eE.toList ms) :
  Meets (Builtin.«tuple.__lt__» ⟨[.ref l,.ref b],[]⟩)
   (λ_ R s=>s.heap.get? l=J {cls:=.type "tuple",dict:=dd,data:=.seq items n,slots:=sl}/\s.heap.get? b=J {cls:=.type "tuple",dict:=Hh,data:=.seq eE n2,slots:=JL} /\
    R (.ok (.ret (.bool (lexLt ns ms)))) s):=
 .of_wp λprog w A R s h=>by
  obtain⟨hp,g,d,tk,os⟩:=s;obtain⟨hl,hb,h⟩:=h;have f2:=AutoSeq1.sub_tuple_tuple;have z1:items.size=ns.length:=by rw[<-hi.length];simp
  have z2:eE.size=ms.length:=by rw[<-hj.length];simp
  wp_walk using wpAny_loadPart' hl,wpAny_loadPart' hb,wpAny_forIn_list _ (λrest b s'=>b.1=L/\s'=⟨hp,g,d,tk,os⟩/\∃(vs ws:List Ì) (md C1:List Int),rest=vs.zip ws/\
   ü vs md/\ü ws C1/\md.length+eE.size=C1.length+items.size/\R (.ok (.ret (.bool (lexLt md C1)))) ⟨hp,g,d,tk,os⟩) _
  case turn=>
   rintro⟨y,x⟩ rest b s' ⟨tW,rfl,vs,ws,md,C1,hz,QL,hwi,iw,hR⟩;cases QL with
   |nil=>cases hz
   |cons a t hvi'=>
    cases hwi with
    |nil=>cases hz
    |cons c u hwi'=>
     injection hz with hyx hrest
     injection hyx with hy hx
     subst hy hx;rw[lexLt_cons] at hR;simp only[Ù] at iw;obtain⟨e,he,hiff⟩:=J1 A.in1 _ a t c u;refine Ã (he prog w _ _ ?_);cases e with
     |true=>
      rw[h_ (hiff.mp rfl)] at hR;wp_walk;exact⟨rfl,rfl,_,_,_,_,hrest,hvi',hwi',by lia,hR⟩
     |false=>
      rw[hZ (λq=>absurd (hiff.mpr q) í)] at hR;have hri:=J2 A.in1 ⟨hp,g,d,tk,os⟩ a t c u prog w;wp_walk using hri;exact⟨_,rfl,by simpa using hR⟩
  case fin=>
   rintro⟨b1,b2⟩ s' ⟨tW,rfl,vs,ws,md,C1,hz,QL,hwi,iw,hR⟩;subst tW;have hv:lexLt md C1=decide (items.size<eE.size):=by
    cases QL with
    |nil=>
     cases hwi with
     |nil=>
      exact (hV (by lia)).symm
     |cons c u hw=>
      simp only[ł,Ù] at iw;exact (hJ (by lia)).symm
    |cons a t hv=>
     cases hwi with
     |nil=>
      simp only[ł] at iw;exact (hV (by lia)).symm
     |cons c u hw=>
      cases hz
   rw[hv] at hR;wp_walk;exact⟨_,rfl,by simpa [Builtin.Tuple.tupleCompareSizes] using hR⟩
  case h=>
   exact⟨rfl,rfl,items.toList,eE.toList,ns,ms,rfl,hi,hj,by lia,h⟩
end
section
variable {A:Ð}
theorem lt_tupInts {l:I}{items eE:Array d}{ms:List Int}(hl:IsTup s.heap l items)(hb:IsTup s.heap b eE)(hi:ü items.toList ns)(hj:ü eE.toList ms)(hu:A.units<Ò)(h:Q (.bool (lexLt ns ms)) s):Á (Ä prog w) A (ă .Lt (.ref l) (.ref b)) Q E s:=by
 obtain⟨⟨cls,dd,data,sl⟩,ho,hc,n,hd⟩:=id hl;obtain⟨⟨cls2,Hh,data2,JL⟩,ho2,hc2,n2,C0⟩:=id hb;subst hc hd hc2 C0;exact richCompare_meets_room (op:=.Lt) ⟨_,ho,rfl⟩ ⟨_,ho2,rfl⟩ PySem.F.slot_tuple_lt PySem.F.entry_tuple_lt (PySem.F.args_tuple_lt_2 _ _) (wX l b _ _ n n2 dd Hh sl JL ns ms hi hj)
  ⟨ho,ho2,⟨(λx=>nomatch x),h⟩⟩ hu
theorem cat_tup {t:I}{vs ws:List d}(ht:IsTup s.heap t vs.toArray)(hb:IsTup s.heap b ws.toArray)(hv:vs≠[])(h1:ws=[]->Q (.ref t) s)(h2:ws≠[]->Q (.ref s.heap.objs.size) {s with heap:=s.heap.push {cls:=.type "tuple",data:=.seq (vs++ws).toArray}})(hsz:vs.length+ws.length<=Å):Á (Ä prog w) A (ě .Add (.ref t) (.ref b)) Q E s:=by
 obtain⟨⟨cls,dd,data,sl⟩,ho,hc,n,hd⟩:=id ht;obtain⟨⟨cls2,Hh,data2,JL⟩,ho2,hc2,n2,C0⟩:=id hb;subst hc hd hc2 C0;have e:vs.toArray++ws.toArray=(vs++ws).toArray:=by simp
 by_cases hw:ws=[]
 ·exact concat_meets ⟨_,ho,rfl⟩ ⟨_,ho2,rfl⟩ noFill_tuple_add seq_tuple_add ϥ Ϣ (ϟ _ _)
   (tuple_addW1 t b _ _ n n2 dd Hh sl JL (by simpa using hv) (by simp[hw])) ⟨ho,ho2,h1 hw⟩
 ·refine concat_meets ⟨_,ho,rfl⟩ ⟨_,ho2,rfl⟩ noFill_tuple_add seq_tuple_add ϥ Ϣ (ϟ _ _)
   (tuple_addW2 t b _ _ n n2 dd Hh sl JL (by simpa using hv) (by simpa using hw) (by exact hsz)) ⟨ho,ho2,?_⟩
  rw[e];exact h2 hw
end
end HT
namespace L2
theorem fH:∀{us:List d},aZ (ns.map V.int) us->ü us ns:=by
 induction ns with
 |nil=>intro us r;cases r;exact .nil
 |cons n ns ih=>
  intro us r;cases r with
  |cons r1 r2=>
   obtain⟨t,e⟩:=r1;subst e;exact .cons n t (ih r2)
section
variable {e:Æ}{lo hi:Option Æ}{tl th:TO}{pos p2:Pos}
def Wq (K:È):R2:=λx y H Q=>∃a b xs ys,x=.ref a/\y=.ref b/\gR K H a xs/\gR K H b ys/\xs≠[]/\xs.length+ys.length<=Å/\
 (ys=[]->Q (.ref a) H)/\(ys≠[]->∀p,H p=L->Q (.ref p) (bc H p (.tup (xs++ys))))
theorem aZ.nil_iff {us:List d}(r:aZ xs us):us=[]↔xs=[]:=by
 cases r with
 |nil=>simp
 |cons _ _=>simp
theorem OI:kh X (ě .Add) (Wq X.K):=by
 intro pins s Y H x y v u Q I rx ry h;obtain⟨a,b,xs,ys,rfl,rfl,ha,hb,hx,hz,q1,q2⟩:=h;cases rx;cases ry;obtain⟨aH,r1,p1,_⟩:=I.tuple ha;obtain⟨its2,r2,p2,_⟩:=I.tuple hb;refine HT.cat_tup p1 p2 (λz=>hx (r1.nil_iff.mp z)) (λz=>⟨.ref a,H,I,rfl,q1 (r2.nil_iff.mp z)⟩) (λz=>?_) (by rw[<-r1.length,<-r2.length];exact hz);refine⟨.ref _,_,I.laid (λb ob q=>Ó _ q) (Ñ _) ?_,rfl,q2 (λw=>z (r2.nil_iff.mpr w)) _ (I.hok.fresh (Ñ _))⟩;exact⟨by rw[ã];exact hz,_,r1.append r2,IsTup.new _ _,_,Ü _ rfl⟩
end
end L2
namespace L2
noncomputable def JF (n:Nat)(i:Int):Option Nat:=if 0<=i then (if i<n then J i.toNat else L) else if -(n:Int)<=i then J (i+n).toNat else L
def pB {α:Type}(xs:List α)(i:Int):Option α:=(JF xs.length i).bind λj=>xs[j]?
theorem Fm {i:Int}(h:JF n i=J j):Ś i n=J j/\j<n/\ -(n:Int)<=i/\i<n:=by
 unfold JF at h;by_cases h0:0<=i
 ·rw[h_ h0] at h;by_cases h1:i<n
  ·rw[h_ h1] at h;grind[Đ,seqIndex_of]
  ·rw[hZ h1] at h;cases h
 ·rw[hZ h0] at h;by_cases h1 : -(n:Int)<=i
  ·rw[h_ h1] at h;grind[Đ,seqIndex_neg]
  ·rw[hZ h1] at h;cases h
theorem yX {α:Type}{xs:List α}{i:Int}{v:α}(h:pB xs i=J v):∃j,Ś i xs.length=J j/\xs[j]? = J v/\j<xs.length/\ -(xs.length:Int)<=i/\i<xs.length:=by
 unfold pB at h;cases e:JF _ i with
 |none=>rw[e] at h;cases h
 |some j=>
  rw[e] at h;obtain⟨h1,h2,h3,h4⟩:=Fm e;exact⟨j,h1,h,h2,h3,h4⟩
def Fo (b:Æ):Prop:=∀o i,subscripted b M o i=operate [o,i] (ś o i)
def Of (X:Cx)(r:R2):Prop:=
 ∀(value lq:Æ) (pins:List (I×Obj)) (s:À) (Y:St) (H:Hp) (x y:V) (v u:d) (Q:VK),aO X pins Y H s->aX x v->aX y u->r x y H Q->
  subscripted lq M v u=operate [v,u] (ś v u)->Á (Ä X.prog X.w) X.A (subscriptTail value lq v u) (EP X pins Y Q) X.xe s
def Og (X:Cx)(id:String)(r:V->List V->Hp->VK->Prop):Prop:=
 ∀(pins:List (I×Obj)) (s:À) (Y:St) (H:Hp) (x:V) (xs:List V) (v:d) (us:List d) (Q:VK),aO X pins Y H s->aX x v->aZ xs us->r x xs H Q->
  Á (Ä X.prog X.w) X.A (call (.builtin id) (v::us)) (EP X pins Y Q) X.xe s
section
variable {a b:Æ}{ta tb:TE}{pos:Pos}
theorem Of.or {r':R2}(h:Of X r)(h':Of X r'):Of X (λx y H Q=>r x y H Q\/r' x y H Q):=by
 intro value lq pins s Y H x y v u Q I rx ry q hs;rcases q with q|q
 ·exact h _ _ pins s Y H x y v u Q I rx ry q hs
 ·exact h' _ _ pins s Y H x y v u Q I rx ry q hs
theorem Og.or {id:String}{r r':V->List V->Hp->VK->Prop}(h:Og X id r)(h':Og X id r'):Og X id (λx xs H Q=>r x xs H Q\/r' x xs H Q):=by
 intro pins s Y H x xs v us Q I rx rs q;rcases q with q|q
 ·exact h pins s Y H x xs v us Q I rx rs q
 ·exact h' pins s Y H x xs v us Q I rx rs q
def Wr (hr:Of X r)(ha:PE X a ta)(hb:PE X b tb)(hs:Fo b):PE X (.Subscript a b pos) (Wc r ta tb):=by
 intro pins s Y H Q I h;exact Subscript_ (S8 ha hb I h λv u s2 x y H2 I2 rx ry q=>hr a b pins s2 Y H2 x y v u Q I2 rx ry q (hs _ _))
def Wt (K:È):R2:=λx y H Q=>∃p xs i v,x=.ref p/\y=.int i/\fG K H p xs/\pB xs i=J v/\Q v H
def Wu (K:È):R2:=λx y H Q=>∃p xs i v,x=.ref p/\y=.int i/\gR K H p xs/\pB xs i=J v/\Q v H
def Wv:R2:=λx y H Q=>∃z i c,x=.str z/\y=.int i/\z.length<=Å/\pB z.cps.toList i=J c/\Q (.str ⟨#[c]⟩) H
theorem OJ:Of X (Wt X.K):=by
 intro value lq pins s Y H x y v u Q I rx ry h hs;obtain⟨p,xs,i,z,rfl,rfl,hq,he,q⟩:=h;cases rx;obtain⟨t,rfl⟩:=ry;obtain⟨aH,r,pl,hz⟩:=I.list hq;obtain⟨j,h1,h2,h3,h4,h5⟩:=yX he;obtain⟨w,ew,CI⟩:=r.get h2;have hl:=r.length;have hn:=yW;have fin:EP X pins Y Q w s:=⟨z,H,I,CI,q⟩;by_cases h0:0<=i
 ·have hj:=by
   rw[seqIndex_of h0 h5] at h1;exact Đ h1
  exact item_listR pl.isList h0 (by lia) (by grind) fin hs
 ·have hj:(i+(aH.toArray.size:Int)).toNat=j:=by
   rw[seqIndex_neg (by lia) h4] at h1;rw[å,<-hl];exact Đ h1
  exact subscriptTail_builtinR pl.isList.typeIs slot_list_getitem.lookup
   (wpAny_getItem_list_neg pl.isList (by lia) (by rw[å]<;>lia) (by lia) (by grind) ⟨rfl,fin⟩) hs
theorem Td:Of X (Wu X.K):=by
 intro value lq pins s Y H x y v u Q I rx ry h hs;obtain⟨p,xs,i,z,rfl,rfl,hq,he,q⟩:=h;cases rx;obtain⟨t,rfl⟩:=ry;obtain⟨aH,r,pl,hz⟩:=I.tuple hq;obtain⟨j,h1,h2,h3,h4,h5⟩:=yX he;obtain⟨w,ew,CI⟩:=r.get h2;have hl:=r.length;have hn:=yW;have fin:EP X pins Y Q w s:=⟨z,H,I,CI,q⟩;exact subscriptTail_builtinR pl.typeIs slot_tuple_getitem.lookup
  (getItem_tuple pl (by lia) (by lia) (by rw[å,<-hl];exact h1) (by simpa using ew) ⟨rfl,fin⟩) hs
theorem Te:Of X Wv:=by
 intro value lq pins s Y H x y v u Q I rx ry h hs;obtain⟨z,i,c,rfl,rfl,hz,he,q⟩:=h;obtain⟨t,rfl⟩:=rx;obtain⟨t',rfl⟩:=ry;obtain⟨j,h1,h2,h3,h4,h5⟩:=yX he;have hl:z.cps.toList.length=z.length:=by rfl
 rw[hl] at h1 h4 h5;have hn:=yW;exact tail_any (typeIs_str s z t) slot_str_getitem.lookup (getItem_str (by
  lia) (by grind) ⟨.str _,H,I.tok _,⟨_,rfl⟩,q⟩) hs
def rIx (K:È):R2:=λx y H Q=>Wt K x y H Q\/Wu K x y H Q\/Wv x y H Q
def aB:Of X (rIx X.K):=OJ.or (Td.or Te)
def Dg (aH:List d)(n j:Nat)(u:d):Ŀ (·.setIfInBounds j u) {cls:=.type "list",data:=.seq aH.toArray n}={cls:=.type "list",data:=.seq (aH.set j u).toArray n}:=by
 simp[Ŀ]
theorem aO.lst {p:Ý}(I:aO X pins Y H s)(h:H p=J (.lst xs)) :
  ∃(aH:List d) (n:Nat),aZ xs aH/\s.heap.get? p=J {cls:=.type "list",data:=.seq aH.toArray n}/\xs.length<=Å:=by
 obtain⟨z,aH,n,r,e⟩:=I.hok p _ h;exact⟨aH,n,r,e,z⟩
def aO.lstUpd {p:Ý}{ys:List V}{sV:List d}{n':Nat}{f:Obj->Obj}(I:aO X pins Y H s)(h:H p=J (.lst xs))(ho:s.heap.get? p=J {cls:=.type "list",data:=.seq aH.toArray n})(hf:f {cls:=.type "list",data:=.seq aH.toArray n}={cls:=.type "list",data:=.seq sV.toArray n'})(r:aZ ys sV)(hz:ys.length<=Å)(t:Nat) :
  aO X pins Y (bc H p (.lst ys)) {s with heap:=s.heap.update p f,toks:=t}:=by
 have e:(s.heap.update p f).get? p=J {cls:=.type "list",data:=.seq sV.toArray n'}:=by
  rw[Ō f ho (by rw[hf]<;>rfl),hf]
 refine I.write (by rw[h];trivial) (.inl rfl) (λb u hb q=>(Heap.get?_update_other _ _ (Ne.symm hb)).trans q) ⟨_,e⟩ ?_;exact⟨hz,sV,n',r,e⟩
def Ww:V->V->V->Hp->(Hp->Prop)->Prop:=λo i v H Q=>∃p xs k j,o=.ref p/\i=.int k/\H p=J (.lst xs)/\JF xs.length k=J j/\Q (bc H p (.lst (xs.set j v)))
theorem J3:V7 X Ww:=by
 intro pins s Y H o i v ov iv u Q I ro ri rv h;obtain⟨p,xs,k,j,rfl,rfl,hp,hj,q⟩:=h;cases ro;obtain⟨t,rfl⟩:=ri;obtain⟨aH,n,r,ho,hz⟩:=I.lst hp;obtain⟨h1,h2,h3,h4⟩:=Fm hj;have hl:=r.length;have hn:=yW;have I'  :=
  I.lstUpd hp ho (Dg aH n j u) (r.set rv j) (by rw[ġ];exact hz) s.toks
 by_cases h0:0<=k
 ·have hk:=by
   rw[seqIndex_of h0 h4] at h1;exact Đ h1
  exact PySem.W.ki_setAt ho h0 (by lia) (by rw[å,<-hl];exact h4) (by rw[hk];exact⟨_,I',q⟩)
 ·have hk:(k+(aH.toArray.size:Int)).toNat=j:=by
   rw[seqIndex_neg (by lia) h3] at h1;rw[å,<-hl];exact Đ h1
  exact PySem.W.ki_setBack ho (by lia) (by rw[å,<-hl];exact h3) (by lia) (by rw[hk];exact⟨_,I',q⟩)
theorem bP:eS X (.type "tuple") (λxs H Q=>∃p ys,xs=[.ref p]/\((fG X.K H p ys/\∀l,H l=L->Q (.ref l) (bc H l (.tup ys)))\/(gR X.K H p ys/\Q (.ref p) H))):=by
 intro pins s Y H xs us Q I r h;obtain⟨p,ys,rfl,h⟩:=h;obtain⟨u,rfl,rx⟩:=i7 r;cases rx;rcases h with⟨hq,q⟩|⟨hq,q⟩
 ·obtain⟨aH,r',pl,hz⟩:=I.list hq;have iw:=r'.length;refine call_tuple_list pl.isList (λh' kp=>?_) (by grind);have I1:=I.kept (t':=s.toks) kp;have I2  :=
   I1.laid (t':=s.toks) (λb o e=>Ó _ e) (Ñ _) (show c8 _ X.w _ _ _ (.tup ys) from ⟨hz,aH,r',IsTup.new _ _,_,Ü _ rfl⟩)
  exact⟨.ref _,_,I2,rfl,q _ (I1.hok.fresh (Ñ _))⟩
 ·obtain⟨aH,r',pl,hz⟩:=I.tuple hq;exact call_tuple_same pl ⟨.ref p,H,I,rfl,q⟩
def YX (K:È)(T:String)(x:V)(H:Hp):Prop:=match x with
 | .str _=>T="str"
 | .int _=>T="int"
 | .ref p=>(T="list"/\∃xs,fG K H p xs)\/(T="tuple"/\((∃o,K.lookup p=J o/\o.cls=.type "tuple"/\o.dict=L)\/∃xs,H p=J (.tup xs))) \/
   (T="dict"/\((∃aV,H p=J (.dK aV))\/∃aV,H p=J (.dT aV)))\/(T="set"/\∃S n,H p=J (.set S n))
 |_=>False
theorem J5 {x:V}{v:d}(I:aO X pins Y H s)(r:aX x v)(ty:YX X.K T x H) :
  s.TypeIs v T/\∀a,v=.ref a->∃ob,s.heap.get? a=J ob/\ob.dict=L:=by
 cases x with
 |str z=>
  obtain⟨t,rfl⟩:=r;cases (show T="str" from ty);grind[typeIs_str]
 |int i=>
  obtain⟨t,rfl⟩:=r;cases (show T="int" from ty);grind[typeIs_int]
 |ref p=>
  cases r;rcases ty with⟨rfl,xs,hq⟩|⟨rfl,⟨o,hk,hc,hd⟩|⟨xs,hq⟩⟩|⟨rfl,hk⟩|⟨rfl,S,n,hk⟩
  ·obtain⟨aH,_,pl,_⟩:=I.list hq;refine⟨pl.isList.typeIs,λa e=>?_⟩;cases e;obtain⟨o,n,e,c,hd,_⟩:=pl;exact⟨o,e,hd⟩
  ·refine⟨⟨o,I.kIn p o hk,hc⟩,λa e=>?_⟩;cases e;exact⟨o,I.kIn _ o hk,hd⟩
  ·obtain⟨_,aH,_,⟨o,e,c,_⟩,n2,e2⟩:=I.hok p _ hq;refine⟨⟨o,e,c⟩,λa e'=>?_⟩;cases e';exact⟨_,e2,rfl⟩
  ·have z:∃o,s.heap.get? p=J o/\o.ExactDict:=by
    rcases hk with⟨aV,hk⟩|⟨aV,hk⟩
    ·obtain⟨_,_,_,_,o,_,_,e,ex,_⟩:=I.hok p _ hk;exact⟨o,e,ex⟩
    ·obtain⟨_,_,_,_,o,_,_,e,ex,_⟩:=I.hok p _ hk;exact⟨o,e,ex⟩
   obtain⟨o,e,ex⟩:=z;refine⟨⟨o,e,ex.1⟩,λa e2=>?_⟩;cases e2;exact⟨o,e,ex.2.1⟩
  ·obtain⟨o,_,_,_,e,ex,_⟩:=I.hok p _ hk;refine⟨⟨o,e,ex.1⟩,λa e2=>?_⟩;cases e2;exact⟨o,e,ex.2.1⟩
 |_=>exact ĥ ty
def Wx (K:È)(T:String)(r:V->List V->Hp->VK->Prop)(to:TE):TE:=λY H Q=>to Y H λx H1=>YX K T x H1/\r x [] H1 Q
def ZI (K:È)(T:String)(r:V->List V->Hp->VK->Prop)(to:TE)(t:TA):TE:=λY H Q=>to Y H λx H1=>YX K T x H1/\t Y H1 λxs H2=>r x xs H2 Q
variable {o e:Æ}{es:List Æ}{to:TE}{t:TA}{name:Str}{cO bW:Pos}{id:String}{r:V->List V->Hp->VK->Prop}
theorem Tf (pa:PlainAttrs T)(slot:Slot T name id)(Vb:typeOf (.builtin id)=pure (.type "method_descriptor"))(hm:Og X id r)(ho:PE X o to)
  (pd:Ħ o name X.env (Í o X.env)=Í o X.env:=by rfl) (ph:(cO.endLine==bW.line)=Z:=by rfl):PE X (.Call (.Attribute o name cO) [] [] bW) (Wx X.K T r to):=by
 intro pins s Y H Q I h;refine wpAny_Call_method0_late pd ph (c7 (ho pins s Y H _ I h) λv s1 ⟨x,H1,I1,r1,ty,q1⟩=>?_);obtain⟨h1,h2⟩:=J5 I1 r1 ty;exact⟨T,id,pa,slot,Vb,h1,h2,Γ rfl (PySem.evalArgs_none (hm pins s1 Y H1 x [] v [] Q I1 r1 .nil q1))⟩
theorem QW (pa:PlainAttrs T)(slot:Slot T name id)(Vb:typeOf (.builtin id)=pure (.type "method_descriptor"))(hm:Og X id r)(ho:PE X o to)(ha:PA X (e::es) t)
  (pd:Ħ o name X.env (Í o X.env)=Í o X.env:=by rfl)
  (N2:((ä bW (Î (e::es) X.env)).all (λx=> !x.1)&&(backToKw bW (ŧ [] X.env)).all (λx=>x.1.isSome)
   && decide ((e::es).length+([]:List ĕ).length+(if ([]:List ĕ).isEmpty then 0 else 1)<30))=Z:=by rfl)
  (ph:(cO.endLine==bW.line)=Z:=by rfl) (hs:Î (e::es) X.env=(M,Í e X.env)::Î es X.env:=by rfl) (E_:(ä bW (Î es X.env)).any (·.1)=M:=by rfl) :
  PE X (.Call (.Attribute o name cO) (e::es) [] bW) (ZI X.K T r to t):=by
 intro pins s Y H Q I h;refine wpAny_Call_method_late pd N2 ph rfl (c7 (ho pins s Y H _ I h) λv s1 ⟨x,H1,I1,r1,ty,q1⟩=>?_);obtain⟨h1,h2⟩:=J5 I1 r1 ty;refine⟨T,id,pa,slot,Vb,h1,h2,?_⟩;have hA:=ha bW pins s1 Y H1 _ I1 q1;rw[hs] at hA |-;refine Γ (by show (M||(ä bW _).any _)=M;rw[E_]<;>rfl) (Calls.evalArgs_plain ?_);exact c7 hA λus s2 ⟨vs,H2,I2,r2,q2⟩=>hm pins s2 Y H2 x vs v us Q I2 r1 r2 q2
end
end L2
namespace L2
def YY (X:Cx)(id:String)(r:V->List V->Hp->VK->Prop):Prop:=
 ∀(pins:List (I×Obj)) (s:À) (Y:St) (H:Hp) (x:V) (xs:List V) (v:d) (us:List d) (Q:VK),aO X pins Y H s->aX x v->aZ xs us->r x xs H Q->
  Á (Ä X.prog X.w) X.A (call (.builtin id) (v::us)) (EP X pins Y Q) X.xe s
def aZ.one:∀{x:V} {us:List d},aZ [x] us->∃u,us=[u]/\aX x u
 |_,_,.cons r .nil=>⟨_,rfl,r⟩
def aZ.zero:∀{us:List d},aZ [] us->us=[]
 |_,.nil=>rfl
theorem aZ.dropLast {us:List d}(h:aZ xs us):aZ xs.dropLast us.dropLast:=by
 induction h with
 |nil=>exact .nil
 |cons r t ih=>
  cases t with
  |nil=>exact .nil
  |cons q t'=>exact .cons r ih
theorem aZ.eraseIdx:∀{xs:List V} {us:List d} (i:Nat),aZ xs us->aZ (xs.eraseIdx i) (us.eraseIdx i)
 |_,_,_,.nil=>.nil
 |_,_,0,.cons _ t=>t
 |_,_,i+1,.cons r t=>.cons r (aZ.eraseIdx i t)
theorem Dh {α:Type}(l:List α):l.eraseIdx (l.length-1)=l.dropLast:=by
 simp
theorem xK {α:Type}:∀(l:List α) (i:Nat),(l.eraseIdx i).length<=l.length
 | [],_=>Ñ _
 |_::_,0=>Nat.le_succ _
 |_::r,i+1=>Nat.succ_le_succ (xK r i)
section
variable {l:I}{ys zs:List V}
def aO.lset {t':Nat}{sV:List d}{f:Array d->Array d}(I:aO X pins Y H s)(hH:H l=J (.lst xs))(e:s.heap.get? l=J {cls:=.type "list",data:=.seq aH.toArray n})(hf:f aH.toArray=sV.toArray)(hv:aZ ys sV)(hz:ys.length<=Å) :
  aO X pins Y (bc H l (.lst ys)) {s with heap:=s.heap.update l (Ŀ f),toks:=t'}:=by
 have q:=PySem.IsL.update e f;rw[hf] at q;refine I.write (by rw[hH];exact trivial) (.inl rfl) (λb' u hb hu=>(Heap.get?_update_other _ _ (Ne.symm hb)).trans hu) ⟨_,q⟩ ?_;exact⟨hz,sV,_,hv,q⟩
def aO.lnew {t':Nat}(I:aO X pins Y H s)(hv:aZ ys aH)(hz:ys.length<=Å) :
  aO X pins Y (bc H s.heap.objs.size (.lst ys)) {s with heap:=s.heap.push {cls:=.type "list",data:=.seq aH.toArray},toks:=t'}:=
 I.laid (λ_ _ q=>Ó _ q) (Ñ _) ⟨hz,aH,0,hv,Ü _ rfl⟩
def aO.fresh (I:aO X pins Y H s):H s.heap.objs.size=L:=I.hok.fresh (Ñ _)
theorem aO.lstM (I:aO X pins Y H s)(hH:H l=J (.lst xs)):xs.length<=Å/\∃(aH:List d) (n:Nat),aZ xs aH/\xs.length=aH.length/\s.heap.get? l=J {cls:=.type "list",data:=.seq aH.toArray n}:=by
 obtain⟨z,aH,n,r,e⟩:=I.hok l _ hH;exact⟨z,aH,n,r,r.length,e⟩
theorem tZ (h:n<=Å):ϫ n=M:=by
 exact hV (by lia)
end
def yY:V->List V->Hp->VK->Prop:=λx vs H Q=>∃l xs y,x=.ref l/\vs=[y]/\H l=J (.lst xs)/\xs.length<Å/\Q .non (bc H l (.lst (xs++[y])))
theorem pO:YY X "list.append" yY:=by
 intro pins s Y H x vs v us Q I rx rv h;obtain⟨l,xs,y,rfl,rfl,hH,hz,q⟩:=h;cases rx;obtain⟨u,rfl,ru⟩:=rv.one;obtain⟨z,aH,n,r,hl,e⟩:=I.lstM hH;refine ŗ F.slot_list_append ⟨_,e,rfl⟩ F.entry_list_append (F.args_list_append_2 _ _) (PySem.list_append l _ n u (by rw[å];lia)) ⟨e,?_⟩;refine⟨.non,_,I.lset hH e (by simp) (r.append (.cons ru .nil)) ?_,rfl,q⟩;rw[ã,Ŋ];lia
def Wy:V->List V->Hp->VK->Prop:=λx vs H Q=>∃l xs y,x=.ref l/\vs=[]/\H l=J (.lst xs)/\xs[xs.length-1]? = J y/\Q y (bc H l (.lst xs.dropLast))
theorem Tg:YY X "list.pop" Wy:=by
 intro pins s Y H x vs v us Q I rx rv h;obtain⟨l,xs,y,rfl,rfl,hH,hy,q⟩:=h;cases rx;have Zf:=rv.zero;subst Zf;obtain⟨z,aH,n,r,hl,e⟩:=I.lstM hH;obtain⟨u,hu,ru⟩:=r.get hy;have hy' :=by
  show aH.toArray[aH.length-1]? = J u;grind
 refine ŗ F.slot_list_pop ⟨_,e,rfl⟩ F.entry_list_pop (F.args_list_pop_1 _) (MeetsSeq.list_pop_last l _ n u hy' (by rw[å];lia)) ⟨e,?_⟩;refine⟨y,_,I.lset hH e ?_ r.dropLast ?_,ru,q⟩
 ·simp
 grind
def J6:V->List V->Hp->VK->Prop:=λx vs H Q=>∃l xs i k y,x=.ref l/\vs=[.int i]/\H l=J (.lst xs)/\ -(2 ^ 63)<=i/\i<2 ^ 63/\Ś i xs.length=J k/\xs[k]? = J y/\Q y (bc H l (.lst (xs.eraseIdx k)))
theorem J7:YY X "list.pop" J6:=by
 intro pins s Y H x vs v us Q I rx rv h;obtain⟨l,xs,i,k,y,rfl,rfl,hH,h1,h2,hk,hy,q⟩:=h;cases rx;obtain⟨u,rfl,ru⟩:=rv.one;obtain⟨t,rfl⟩:=ru;obtain⟨z,aH,n,r,hl,e⟩:=I.lstM hH;obtain⟨w,hw,CI⟩:=r.get hy;refine ŗ F.slot_list_pop ⟨_,e,rfl⟩ F.entry_list_pop (F.args_list_pop_2 _ _)
  (MeetsSeq.list_pop_at l _ n i t k w (fitsIndex_both h1 h2) (by grind) (by grind) (by rw[å];lia)) ⟨e,?_⟩
 refine⟨y,_,I.lset hH e ?_ (r.eraseIdx k) ?_,CI,q⟩
 ·simp
 ·have:=xK xs k;lia
section
variable {A:Ð}
set_option maxRecDepth 100000 in
end
end L2
namespace Att
open PySem.W PySem.Calls
theorem se {P:Params}:∀(ns:List Int) (vs:List d),WellAll P h vs (ns.map WData.int)->ü vs ns:=by
 intro ns
 induction ns with
 |nil=>
  intro vs w;cases w;exact .nil
 |cons n ns ih=>
  intro vs w;cases w with
  |cons a b=>
   cases a;exact .cons _ _ (ih _ b)
theorem HC {l:OpenLaw}(hn:l.most=J n){P:Params}{args:List WData}{Vc:List Ì}(QH:l.row.toRowW.claim.pre args=Z)(hwl:WellAll P h Vc args) :
  ∃a vs ns,Vc=[Value.ref a]/\args=[WData.list (ns.map WData.int)]/\h.get? a=J {cls:=.type "list",data:=.seq vs.toArray}/\ü vs ns/\ns.length<=n:=by
 have hsh:=(pre_splitW QH).1;have hc:l.pre.holds [] _=Z:=(pre_splitW QH).2;obtain⟨d,r,rfl,h1,h2⟩:=hasAllW_cons hsh;obtain rfl:=hasAllW_nil h2;obtain⟨xs,rfl,h3⟩:=hasW_list h1;obtain⟨ns,rfl⟩:=items_int h3;have iw:=by
  have h4:=by
   have h4:=(holds_andW hc).1;rw[hn] at h4;exact h4
  have h5:=condW_of h4 (w_not (w_lt w_lit (w_len_list (w_arg rfl))))
  first
   | (exact absurd h5 (by decide))
   | (simp at h5;omega)
 cases hwl with
 |cons w1 w2=>
  cases w2;cases w1 with
  |list ho N5=>exact⟨_,_,ns,rfl,rfl,ho,se ns _ N5,iw⟩
def HD (l:OpenLaw)(args:List WData):l.row.toRowW.claim.post args (.bool Z) args=Z:=
 postW_of
  (show WShape.has [] _ _=Z by rfl)
  (show (WTm.eq .res _).value [] _=J _ from w_eq_bool (w_res rfl) w_lit) rfl
theorem attach_call {l:OpenLaw}{q:ó}{d:DefRec}(hn:l.most=J n)(Yr:d.params.defaults=[])(call:∀(w:â) (s₀ s₁:À) (mg mb:Str->Option Ì) (fa:I) (o:Obj) (pm cd ke:Ì) (a:I) (vs:List Ì) (ns:List Int),
   Ground q loose [] XP w s₀ mg mb s₁.heap->YP w s₁.heap->
   s₁.heap.get? fa=J o->o.data=.func (docDef d.name d.params d.body d.scope pm cd ke)->s₁.heap.CodeRec cd d.name->mg d.name=J (.ref fa)->
   s₁.heap.get? a=J {cls:=.type "list",data:=.seq vs.toArray}->ü vs ns->ns.length<=n->s₁.gens=#[]->
   codeAny (Ä l.prog w) callerA (.call (.ref fa) ⟨[.ref a],[]⟩) (λr s'=>r=.ok (.ret (.bool Z))/\OldK s₁.heap s'.heap/\s'.os=s₁.os/\Ņ s'.gens) s₁) :
  WalkO q loose XP YP l.row.toRowW d [] (λf vs=>PySem.call f vs):=by
 intro w s₀ s₁ mg mb G Yqq fa o pm cd ke dV kV ho hd jX hD Ys hg args Vc as QH acM hrd hwl hlo;obtain rfl:dV=.none:=Dflts.none hD Yr;obtain rfl:kV=.none:=Dflts.noKw hD;obtain⟨a,vs,ns,rfl,rfl,Vd,N3,iw⟩:=HC hn QH hwl;refine enter_call (Ξ (call w s₀ s₁ mg mb fa o pm cd ke a vs ns G Yqq ho (fd_plain hd) jX Ys Vd N3 iw hg) λr s' hq=>?_);obtain⟨rfl,h2,h3,h4⟩:=hq;exact⟨.inl ⟨.bool Z,.bool Z,[],rfl,λ_=>rfl,.bool Z,HD l _,λ_=>⟨List.Pairwise.nil,λ_ hm=>(nomatch hm)⟩⟩,h2,h3,h4⟩
end Att
namespace L2
theorem pP:∀{vs:List d} {ns:List Int},ü vs ns->aZ (ns.map V.int) vs
 |_,_,.nil=>.nil
 |_,_,.cons n t h=>.cons ⟨t,rfl⟩ (pP h)
def OM (H:Hp):Prop:=∀b,H b=L\/∃o xs,H b=J (.frz o (.lst xs))
theorem J8 {mb:Str->Option Ì}{k:Nat}{s₁:À}{vs:List Ì}(KX:K.In s₁.heap)(hns:s₁.heap.Ns ê mg)(hb:s₁.heap.Ns builtinsNs mb)(hbb:∀x:Str,x≠"__name__"->mb x=Ĉ x)(aaX:s₁.heap.NoLimit)(hg:s₁.gens=#[])(ha:s₁.heap.get? a=J {cls:=.type "list",data:=.seq vs.toArray})(hi:ü vs ns)(hl:ns.length<=Å)(hr:cX k callerA)(F:∀base:É,K.In base->base.Ns ê mg->gE P w K mg base CX k fa fd [x] sp)(Yt:∀(s:À) (u:Ì),BindsTo s fd ⟨[u],[]⟩ [(x,u)])(SE:∀H:Hp,OM H->fG K H a (ns.map V.int)->sp [.ref a] H (λv _=>v=.bl Z) λ_ _ _=>False)(hCX:∀H e s',CX [] H s₁ (λ_ _ _=>False) e s'->False) :
  codeAny (Ä P w) callerA (.call (.ref fa) ⟨[.ref a],[]⟩) (λr s'=>r=.ok (.ret (.bool Z))/\OldK s₁.heap s'.heap/\s'.os=s₁.os/\Ņ s'.gens) s₁:=by
 have rv:=pP hi;have aaZ:=hi.length;have Yu:∀H ,OM H->fG K H a (ns.map V.int)->jZ P w H s₁.heap->(∀b,H b≠L->b=a)->(H a≠L->K.lookup a=L)->
   codeAny (Ä P w) callerA (.call (.ref fa) ⟨[.ref a],[]⟩) (λr s'=>r=.ok (.ret (.bool Z))/\OldK s₁.heap s'.heap/\s'.os=s₁.os/\Ņ s'.gens) s₁:=by
  intro H hO hS hok hA hK;have Hi:∀{b:I} {o:Obj},s₁.heap.get? b=J o->H b=L->(Hm _ H).get? b=J o:=λe n=>JM e n;have Yp:∀{b:I} {o:Obj} {es:Array _} {ep:Nat},s₁.heap.get? b=J o->o.data=.dict es ep->H b=L:=λ{b o es ep} e d=>by
   grind
  have Zg:∀{b:I} {m:Str->Option _},s₁.heap.Ns b m->(Hm _ H).Ns b m:=λ{b m} ⟨o,es,ep,e,d,r⟩=>⟨o,es,ep,Hi e (Yp e d),d,r⟩;have hKb:=λb o e=>Hi (KX b o e) (by
   grind)
  have hM:Mod K mg _:=⟨hKb,Zg hns,⟨mb,Zg hb,hbb⟩,let ⟨mc,h1,h2⟩:=aaX;⟨mc,Zg h1,h2⟩⟩;have e0:De P w K mg _ callerA [] s₁ H:=⟨rfl,hM,λb o e=>Oq e,Nat.le_of_eq (Hn _ _),trivial,λb hb=>absurd (show b∈([]:List I) from hb) (by simp),hok,.of_eq hg⟩;refine Ξ ((F _ hKb (Zg hns)).run _ [] s₁ H _ _ [.ref a] _ _ hr e0 (Yt s₁ _) (.cons rfl .nil) (SE H hO hS)) λr s' h=>?_;cases r with
  |error e=>exact (hCX H e s' h).elim
  |ok fl=>
   cases fl with
   |next=>exact ĥ h
   |brk=>exact ĥ h
   |cont=>exact ĥ h
   |ret u=>
    obtain⟨v,H',os,bare,un,hok',r',q⟩:=h;have q' :=q;subst q';obtain rfl:u=Value.bool Z:=r';refine⟨rfl,OldK.of_keep λb o e=>?_,os,bare⟩;cases q:H b with
    |none=>exact un.keep b o e q (by intro z;exact absurd (show b∈([]:List I) from z) (by simp)) (by simp)
    |some u=>
     rcases hO b with z|⟨ob,xs,z⟩
     ·lia
     ·have z2:=un.frzs b ob _ z;obtain⟨e1,_⟩:=hok b _ z;obtain⟨e2,_⟩:=hok' b _ z2;lia
 cases hk:K.lookup a with
 |some o=>
  have e:=KX a o hk;rw[ha] at e;cases e;refine Yu _ (λ_=>.inl rfl) (.inr ⟨_,vs.toArray,_,hk,rfl,rfl,rfl,by rw[å,aaZ];exact hl,by lia⟩) (λb u z=>by lia) (λb z=>absurd rfl z) λz=>absurd rfl z
 |none=>
  refine Yu (λb=>if b=a then J _ else L) (λb=>?_) (.inl (.inr ⟨{cls:=.type "list",data:=.seq vs.toArray},h_ rfl⟩)) (λb u z=>?_) (λb z=>?_) λ_=>hk
  ·grind
  ·by_cases hb:b=a
   ·have z':=(h_ hb).symm.trans z;cases z';subst hb;exact⟨ha,by rw[Ê];exact hl,vs,_,rv,ha⟩
   lia
  lia
end L2
namespace L2
theorem walk_of {l:PySem.W.OpenLaw}{k:Nat}{q:ó}{d:DefRec}{K:Params->È}{CX:â->CXT}{sp:â->Sp}(hn:l.most=J n)(SA:n<=Å)(Yr:d.params.defaults=[])(hr:cX k callerA)(hY:∀(w:â) (h:É),YP w h->(K w.params).In h)(F:∀(w:â) (mg:Str->Option Ì) (fa:I) (h:É),(K w.params).In h->h.Ns ê mg->mg d.name=J (.ref fa)->
   ∃fd:ħ,(∀(s:À) (u:Ì),BindsTo s fd ⟨[u],[]⟩ [(x,u)])/\
    ∀base:É,(K w.params).In base->base.Ns ê mg->gE l.prog w (K w.params) mg base (CX w) k fa fd [x] (sp w))(SE:∀(w:â) (H:Hp) (a:I) (ns:List Int),ns.length<=n->OM H->fG (K w.params) H a (ns.map V.int)->sp w [.ref a] H (λv _=>v=.bl Z) λ_ _ _=>False)(hCX:∀(w:â) (H:Hp) (s:À) (e:Ì) (s':À),CX w [] H s (λ_ _ _=>False) e s'->False) :
  PySem.W.WalkO q loose XP YP l.row.toRowW d [] (λf vs=>PySem.call f vs):=by
 refine Att.attach_call hn Yr λw s₀ s₁ mg mb fa o pm cd ke a vs ns G Yqq ho hd jX Ys Vd N3 iw hg=>?_;have KX:=hY w _ Yqq;obtain⟨fd,hb,hF⟩:=F w mg fa _ KX G.T.g Ys;exact J8 KX G.T.g G.T.b G.T.builtins G.T.nolimit hg Vd N3 (ą iw SA) hr hF hb (λH hO hS=>SE w H a ns iw hO hS) λH e s'=>hCX w H s₁ e s'
end L2
namespace L2
abbrev pD:CXT:=λ_ _ _ _ _ _=>False
abbrev E0:XK:=λ_ _ _=>False
def J9:pM pD X E0:=λ_ _ _ _ _ _ _ h=>h.elim
structure HF (K:È)(x qual:Str)(st:Ë)(f:I)(fd:ħ):Prop where
 ex:∃(oc:d) (od:Option I) (kV ke pm:d) (an:Option I) (cS ct:d) (SD:Array (Option d)),
  fd=č x qual (cT st) (bf st) (ak st) .none kV ke pm an cS ct/\K.lookup f=J ⟨oc,od,.func fd,SD⟩/\Ż K cS qual=Z
 kp:Ń K (.ref f)=Z
section
variable {base:É}
theorem HF.ok {k:Nat}(F:HF K x qual st f fd)(S:ay N ps (ak st))(len:∀vs H Q E,sp vs H Q E->vs.length=ps.length)(fA:∀(cS:d) (A:Ð) (outer:List Env) (s:À) (H:Hp) (vs:List V) (Q:VK) (E:XK),cX k (A.deeper (ċ qual (ak st) s.heap.objs.size f cS))->sp vs H Q E->
   ∃t,tX (j8 pD P w K mg base N qual (ak st) f cS A outer s H E).nox (bf st) t/\t {nx:=λ_ H'=>Q .non H',rt:=Q} (f6 N vs) H):gE P w K mg base pD (k+1) f fd ps sp:=by
 obtain⟨oc,od,kV,ke,pm,an,cS,ct,SD,rfl,lk,jX⟩:=F.ex;refine Wo lk jX S len λA outer s H vs Q E hr SE=>?_;obtain⟨t,h,q⟩:=fA cS A _ s H vs Q E hr SE;exact⟨t,h.nox,q⟩
theorem HF.binds (F:HF K x qual st f fd)(h:∀(kV ke pm:d) (an:Option I) (cS ct:d) (us:List d),us.length=ps.length->ĵ (č x qual (cT st) (bf st) (ak st) .none kV ke pm an cS ct) ⟨us,[]⟩=pure (ps.zip us)):j0 K fd ps []:=by
 obtain⟨oc,od,kV,ke,pm,an,cS,ct,SD,rfl,lk,jX⟩:=F.ex;exact .all (h kV ke pm an cS ct)
def Di {oc:d}{od an:Option I}{SD:Array (Option d)}{kV ke pm cS ct:d}(l:K.lookup f=J ⟨oc,od,.func (č x qual (cT st) (bf st) (ak st) .none kV ke pm an cS ct),SD⟩)(c:Ż K cS qual=Z)(k:Ń K (.ref f)=Z):HF K x qual st f (č x qual (cT st) (bf st) (ak st) .none kV ke pm an cS ct):=⟨⟨oc,od,kV,ke,pm,an,cS,ct,SD,rfl,l,c⟩,k⟩
end
def xM {A:Ð}{k:Nat}(hr:cX k A):A.units+1<Ò:=η (Nat.add_le_add_left (by decide:1<=64) _) hr.units
def pv (i:Nat){pos:Pos}(hN:X.N[i]? = J x:=by rfl)(hv:AN X.env.scope x:=by first|exact Or.inl rfl|exact Or.inr (Or.inl rfl)|exact Or.inr (Or.inr rfl))(hd:(x==("__debug__":Str))=M:=by decide)(jX:(x==("__classdict__":Str))=M:=by decide):PE X (.Name x pos) (wW i):=eN hN hv hd jX
def aN (H H':Hp):Prop:=∀b o,H b=J o->H' b=J o
def aN.refl (H:Hp):aN H H:=λ_ _ h=>h
def aN.trans (a:aN H H1)(b:aN H1 H2):aN H H2:=λc o h=>b c o (a c o h)
theorem aN.seq (e:aN H H')(h:fG K H a xs):fG K H' a xs:=by
 rcases h with (h|⟨o,h⟩)|h
 ·exact .inl (.inl (e _ _ h))
 ·exact .inl (.inr ⟨o,e _ _ h⟩)
 ·exact .inr h
end L2
namespace L2
section
variable {κ:Type}[DecidableEq κ]
noncomputable def nD (aV:List (κ×V))(k:κ):Option V:=(aV.find? λkv=>decide (kv.1=k)).map (·.2)
noncomputable def jw (aV:List (κ×V))(k:κ)(v:V):List (κ×V):=
 if (aV.any λkv=>decide (kv.1=k))=Z then aV.map (λkv=>if kv.1=k then (kv.1,v) else kv) else aV++[(k,v)]
def nE {p:κ×V}{r:List (κ×V)}{k:κ}(e:p.1=k):nD (p::r) k=J p.2:=by simp[nD,e]
def nF {p:κ×V}{r:List (κ×V)}{k:κ}(e:¬p.1=k):nD (p::r) k=nD r k:=by simp[nD,e]
theorem A4 (k:κ):∀aV:List (κ×V),(aV.any λkv=>decide (kv.1=k))=(nD aV k).isSome
 | []=>rfl
 |p::r=>by
  rw[List.any_cons];by_cases e:p.1=k
  ·simp only[nE e,hJ e,Bool.true_or,Option.isSome_some]
  ·rw[nF e,hV e];exact A4 k r
theorem kj (aV:List (κ×V))(k:κ)(v:V):(jw aV k v).length<=aV.length+1:=by
 unfold jw;split
 ·rw[Ê];lia
 ·rw[ã,Ù,ł];lia
theorem lW.isSome_eq {o:Option V}{u:Option d}(r:lW o u):o.isSome=u.isSome:=by
 cases o with
 |none=>cases u with
  |none=>rfl
  |some _=>exact (show False from r).elim
 |some _=>cases u with
  |none=>exact (show False from r).elim
  |some _=>rfl
theorem lW.getD {o:Option V}{u:Option Ì}{d:V}{d':Ì}(r:lW o u)(rd:aX d d'):aX (o.getD d) (u.getD d'):=by
 cases o with
 |none=>cases u with
  |none=>exact rd
  |some _=>exact (show False from r).elim
 |some _=>cases u with
  |none=>exact (show False from r).elim
  |some _=>exact r
theorem KV.val {aV:List (κ×V)}{vs:List (κ×d)}(r:KV aV vs)(k:κ):lW (nD aV k) (valueAt vs k):=by
 induction r with
 |nil=>exact True.intro
 | @cons p q ps qs h t ih=>
  obtain⟨h1,h2⟩:=h;by_cases e:p.1=k
  ·have e' :=h1.symm.trans e;have b:valueAt (q::qs) k=J q.2:=by simp[valueAt,e']
   rw[nE e,b];exact h2
  simp_all[valueAt,nF]
theorem KV.any {aV:List (κ×V)}{vs:List (κ×d)}(r:KV aV vs)(k:κ):(aV.any λkv=>decide (kv.1=k))=vs.any λkv=>decide (kv.1=k):=by
 induction r with
 |nil=>rfl
 |cons h t ih=>rw[List.any_cons,List.any_cons,ih,h.1]
theorem KV.repl {aV:List (κ×V)}{vs:List (κ×d)}(r:KV aV vs)(k:κ){u:d}(ry:aX y u) :
  KV (aV.map λkv=>if kv.1=k then (kv.1,y) else kv) (vs.map λkv=>if kv.1=k then (kv.1,u) else kv):=by
 induction r with
 |nil=>exact .nil
 | @cons p q ps qs h t ih=>
  rw[Ç,Ç];refine .cons ?_ ih;lia
def KV.put {aV:List (κ×V)}{vs:List (κ×d)}(r:KV aV vs)(k:κ){u:d}(ry:aX y u):KV (jw aV k y) (stored vs k u):=by
 unfold jw stored;rw[r.any k];by_cases e:(vs.any λkv=>decide (kv.1=k))=Z
 ·rw[h_ e,h_ e];exact r.repl k ry
 ·rw[hZ e,hZ e];exact Paired.snoc r ⟨rfl,ry⟩
def KV.length {aV:List (κ×V)}{vs:List (κ×d)}(r:KV aV vs):aV.length=vs.length:=ő r
end
theorem xN {k:Key}{u:d}(r:aX (kV k) u):(c_ P w).is k u=Z:=by
 cases k with
 |inl i=>obtain⟨t,e⟩:=(show ∃t,u=Value.int i t from r);simp_all[AK]
 |inr x=>obtain⟨t,e⟩:=(show ∃t,u=Value.str x t from r);simp_all[AM]
theorem xO {P:ó}{w:â}:∀{ks:List Key} {us:List d},aZ (ks.map kV) us->ItemsAre (c_ P w) ks us
 | [],_,r=>by cases r;exact .nil
 |k::ks,_,r=>by
  cases r with
  |cons h t=>exact .cons (xN h) (xO t)
abbrev KT (H:Hp):List (List Key×V)->List (List Key×I×d)->Prop:=è λp q=>p.1=q.1/\H q.2.1=J (.tup (p.1.map kV))/\aX p.2 q.2.2
theorem KT.val {xs:List (List Key×I×d)}(r:KT H aV xs)(k:List Key):lW (nD aV k) ((atKey xs k).map (·.2)):=by
 induction r with
 |nil=>exact True.intro
 | @cons p q ps qs h t ih=>
  obtain⟨h1,_,h2⟩:=h;by_cases e:p.1=k
  ·have e' :=h1.symm.trans e;have b:atKey (q::qs) k=J q.2:=by simp[atKey,e']
   rw[nE e,b];exact h2
  simp_all[atKey,nF]
theorem KT.repl {xs:List (List Key×I×d)}(r:KT H aV xs)(k:List Key){u:d}(ry:aX y u) :
  KT H (aV.map λkv=>if kv.1=k then (kv.1,y) else kv) (xs.map (putAt k u)):=by
 induction r with
 |nil=>exact .nil
 | @cons p q ps qs h t ih=>
  rw[Ç];refine .cons ?_ ih;obtain⟨h1,h2,h3⟩:=h;unfold putAt;lia
def KT.put {xs:List (List Key×I×d)}(r:KT H aV xs)(k:List Key){u:d}(hb:H b=J (.tup (k.map kV)))(ry:aX y u) :
  KT H (jw aV k y) (storedH xs k b u):=by
 have e:(aV.any λkv=>decide (kv.1=k))=(atKey xs k).isSome:=by
  rw[A4,(r.val k).isSome_eq,σ]
 unfold jw storedH;rw[e];by_cases q:(atKey xs k).isSome=Z
 ·rw[h_ q,h_ q];exact r.repl k ry
 ·rw[hZ q,hZ q];exact Paired.snoc r ⟨rfl,hb,ry⟩
def KT.keeps {xs:List (List Key×I×d)}(r:KT H aV xs)(ht:∀b ys,H b=J (.tup ys)->H' b=J (.tup ys)):KT H' aV xs:=
 Paired.mapP r λ_ _ z=>⟨z.1,ht _ _ z.2.1,z.2.2⟩
def QX {u:HO}(ok:jZ P w H h)(e:Rd H a u):c8 P w H h a u:=e.ok ok
def xP {aV:List (Key×V)}(ok:jZ P w H h)(e:Rd H a (.dK aV)):aV.length<=Å/\(a==Ă)=M/\∃vs,KV aV vs/\h.DictOf (c_ P w) a vs:=
 show c8 P w H h a _ from QX ok e
def QY {aV:List (Key×V)}(ok:jZ P w H h)(e:H a=J (.dK aV)):aV.length<=Å/\(a==Ă)=M/\∃vs,KV aV vs/\h.DictOf (c_ P w) a vs:=xP ok (.inl e)
theorem t7 {ks:List Key}(ok:jZ P w H h)(e:H a=J (.tup (ks.map kV))):(tupleKind (c_ P w)).is h ks a:=by
 obtain⟨_,aH,r,⟨o,h1,h2,n,h3⟩,_⟩:=(show c8 P w H h a _ from ok a _ e);exact⟨o,aH.toArray,n,h1,h2,h3,by simpa using xO r⟩
theorem xQ (ok:jZ P w H h)(e:Rd H a (.dT aV)):aV.length<=Å/\(a==Ă)=M/\
  ∃xs,KT H aV xs/\h.DictOfH (tupleKind (c_ P w)) a xs:=by
 obtain⟨z,y,xs,r,o,es,ep,h1,h2,h3,h4,h5⟩:=(show c8 P w H h a _ from QX ok e);refine⟨z,y,xs,r,o,es,ep,h1,h2,h3,h4,λx hx=>?_,h5⟩;have all:∀{l:List _} {m:List _},KT H l m->∀x∈m,(tupleKind (c_ P w)).is h x.1 x.2.1:=by
  intro l m q
  induction q with
  |nil=>simp
  | @cons p q ps qs hq t ih=>
   grind[t7]
 exact all r x hx
def Wz (ok:jZ P w H h)(e:H a=J (.dT aV)):aV.length<=Å/\(a==Ă)=M/\
  ∃xs,KT H aV xs/\h.DictOfH (tupleKind (c_ P w)) a xs:=xQ ok (.inl e)
def yZ (H:Hp)(a:I)(y:V)(r:Option V):Prop:=
 (∃aV k,Rd H a (.dK aV)/\y=kV k/\r=nD aV k)\/∃aV k b,Rd H a (.dT aV)/\y=.ref b/\H b=J (.tup (k.map kV))/\r=nD aV k
def HG (H:Hp)(a:I)(y v:V)(H':Hp):Prop:=
 (∃aV k,H a=J (.dK aV)/\y=kV k/\aV.length<Å/\H'=bc H a (.dK (jw aV k v))) \/
 ∃aV k b,H a=J (.dT aV)/\y=.ref b/\H b=J (.tup (k.map kV))/\aV.length<Å/\H'=bc H a (.dT (jw aV k v))
def yZ.k {aV:List (Key×V)}{k:Key}(e:H a=J (.dK aV)):yZ H a (kV k) (nD aV k):=.inl ⟨aV,k,.inl e,rfl,rfl⟩
def HG.k {aV:List (Key×V)}{k:Key}(e:H a=J (.dK aV))(hl:aV.length<Å):HG H a (kV k) v (bc H a (.dK (jw aV k v))):=.inl ⟨aV,k,e,rfl,hl,rfl⟩
section
variable {u r:d}{o:Option V}{A:Ð}
def aO.big (I:aO X pins Y H s):Ă<s.heap.objs.size:=by
 have h:=(I.mod.glob.keeps I.bk).lt;exact Nat.lt_trans (by decide) h
theorem xR (hu:A.units+1<Ò)(I:aO X pins Y H s)(g:yZ H a y (J v))(ry:aX y u)(h:∀w' s',aO X pins Y H s'->aX v w'->Q w' s') :
  Á (Ä X.prog X.w) A (ś (.ref a) u) Q E s:=by
 rcases g with⟨aV,k,e,ey,l⟩|⟨aV,k,b,e,ey,eb,l⟩
 ·subst ey;obtain⟨z,hd,vs,rel,dd⟩:=xP I.hok e;obtain⟨w',hw,CI⟩:=lW.some_of (by rw[l];exact rel.val k);exact wpAny_getItem_of (xN ry) dd.mapOf hw (h w' _ (I.tok _) CI)
 ·subst ey;cases (show u=Value.ref b from ry);obtain⟨z,hd,xs,rel,dd⟩:=xQ I.hok e;obtain⟨w',hw,CI⟩:=lW.some_of (by rw[l];exact rel.val k);obtain⟨p,hp,JD⟩:=Ţ.mp hw;refine wpAny_getItem_heap (Ι hu) (t7 I.hok eb) dd hp ?_;rw[JD];exact h w' _ (I.tok _) CI
theorem ON (hu:A.units+1<Ò)(I:aO X pins Y H s)(g:yZ H a y o)(ry:aX y u)(h:∀s',aO X pins Y H s'->Q (.bool (!o.isSome)) s') :
  Á (Ä X.prog X.w) A (ă .NotIn u (.ref a)) Q E s:=by
 rcases g with⟨aV,k,e,ey,l⟩|⟨aV,k,b,e,ey,eb,l⟩
 ·subst ey;obtain⟨z,hd,vs,rel,dd⟩:=xP I.hok e;refine wpAny_notIn_of (xN ry) hd dd.mapOf ?_;rw[<-(rel.val k).isSome_eq,<-l];exact h _ (I.tok _)
 ·subst ey;cases (show u=Value.ref b from ry);obtain⟨z,hd,xs,rel,dd⟩:=xQ I.hok e;refine wpAny_notIn_heap (Ι hu) (t7 I.hok eb) hd dd ?_;have q:=(rel.val k).isSome_eq;rw[σ] at q;rw[<-q,<-l];exact h _ (I.tok _)
def nG {t':Nat}{ob:HO}(I:aO X pins Y H s)(mu:Vw (H a))(hs:Ļ a s.heap h')(he:∃q,h'.get? a=J q)(new:c8 X.prog X.w (bc H a ob) h' a ob) :
  aO X pins Y (bc H a ob) {s with heap:=h',toks:=t'}:=
 I.write mu (.inl rfl) (λb q hb z=>(hs.2 b hb).trans z) he new
def J_ {aV:List (Key×V)}{vs:List (Key×d)}(z:aV.length<=Å)(hd:(a==Ă)=M)(rel:KV aV vs)(dd:h'.DictOf (c_ P w) a vs) :
  c8 P w H' h' a (.dK aV):=⟨z,hd,vs,rel,dd⟩
theorem xS {Q:Unit->À->Prop}(hu:A.units+1<Ò)(I:aO X pins Y H s)(g:HG H a y v H')(ry:aX y u)(rv:aX v r)(h:∀s',aO X pins Y H' s'->Q () s') :
  Á (Ä X.prog X.w) A (setItem (.ref a) u r) Q E s:=by
 rcases g with⟨aV,k,e,ey,l,eH⟩|⟨aV,k,b,e,ey,eb,l,eH⟩
 ·subst ey eH;obtain⟨z,hd,vs,rel,dd⟩:=QY I.hok e;have hz:vs.length<=Å:=by rw[<-rel.length];exact z
  have hl:(jw aV k v).length<=Å:=by grind[kj]
  refine wpAny_setItem_pairs (xN ry) dd λh' N4 hs=>h _ ?_;have he:∃q,h'.get? a=J q:=let ⟨q,_,_,hq,_⟩:=N4;⟨q,hq⟩
  exact nG I (by rw[e];exact True.intro) hs he (J_ hl hd (rel.put k rv) N4)
 ·subst ey eH;cases (show u=Value.ref b from ry);obtain⟨z,hd,xs,rel,dd⟩:=Wz I.hok e;have hz:xs.length<=Å:=by rw[<-ő rel];exact z
  have hl:(jw aV k v).length<=Å:=by grind[kj]
  refine wpAny_setItem_heap (Ι hu) (t7 I.hok eb) dd λh' N4 hs=>h _ ?_;obtain⟨q,es,ep,hq,h2,h3,h4,_,h5⟩:=N4;refine nG I (by rw[e];exact True.intro) hs ⟨q,hq⟩ ⟨hl,hd,_,(rel.put k eb rv).keeps λc ys ec=>?_,q,es,ep,hq,h2,h3,h4,h5⟩;rw[aG (VY ec e (λz=>nomatch z))];exact ec
end
def HH (i:Æ):Prop:=∀ov iv,subscripted i M ov iv=operate [ov,iv] (ś ov iv)
theorem Fp {A:Ð}{value lq:Æ}{pos:Pos}{id:String}(hl:typeLookup (.type T) "__getitem__"=pure (J (.builtin id)))(hs:HH lq)(h:Á (Ä prog w) A (Í value env) (λo s₁=>Á (Ä prog w) A (Í lq env) (λi s₂=>s₂.TypeIs o T/\Á (Ä prog w) A (ś o i) Q E s₂) E s₁) E s) :
  Á (Ä prog w) A (Í (.Subscript value lq pos) env) Q E s:=by
 refine Subscript_ (ý h (λo s₁ h₁=>ý h₁ (λi s₂ h₂=>?_) λ_ _ x=>x) λ_ _ x=>x);obtain⟨hT,h₂⟩:=h₂;refine t ?_;refine t (Ŕ hT hl ?_);have fin:Á (Ä prog w) A (subscripted lq M o i) (λr s₃=>Á (Ä prog w) A (letTemporaryGo value o r >>= λ_=>pure r) Q E s₃) E s₂:=by
  rw[hs o i];exact wpAny_operating (ý h₂ (λr s₃ h₃=>t (wpAny_letTemporaryGo (Â h₃))) λ_ _ x=>x)
 grind[Â,t]
theorem qQ {o:Option V}(I:aO X pins Y H s)(g:yZ H a y o):s.TypeIs (.ref a) "dict":=by
 rcases g with⟨aV,k,e,_,_⟩|⟨aV,k,b,e,_,_,_⟩
 ·obtain⟨_,_,vs,_,dd⟩:=xP I.hok e;exact dd.typeIs
 ·obtain⟨_,_,xs,_,dd⟩:=xQ I.hok e;exact dd.typeIs
def QZ (td ty:TE):TE:=λY H Q=>td Y H λx H1=>ty Y H1 λy H2=>∃a v,x=.ref a/\yZ H2 a y (J v)/\Q v H2
def Q0 (td ty tv:TE):TS:=λD Y H=>tv Y H λv H1=>td Y H1 λx H2=>ty Y H2 λy H3=>∃a H4,x=.ref a/\HG H3 a y v H4/\D.nx Y H4
section
variable {o i e value:Æ}{pos tpos:Pos}{td ty tv:TE}
theorem OO (hu:X.A.units+1<Ò)(ho:PE X o td)(hi:PE X i ty)(hs:HH i):PE X (.Subscript o i pos) (QZ td ty):=by
 intro pins s Y H Q I h;refine Fp PySem.F.slot_dict_getitem.lookup hs (c7 (ho pins s Y H _ I h) λu s1 ⟨x,H1,I1,rx,q1⟩=>c7 (hi pins s1 Y H1 _ I1 q1) λiv s2 ⟨y,H2,I2,ry,a,v,ex,g,q2⟩=>?_);subst ex;obtain rfl:u=Value.ref a:=rx;exact⟨qQ I2 g,xR hu I2 g ry λw' s3 I3 CI=>⟨v,H2,I3,CI,q2⟩⟩
theorem OP (hu:X.A.units+1<Ò)(ho:PE X o td)(hi:PE X i ty)(hv:PE X value tv)(hs:Ē value (J (.Subscript o i pos')) pos.line X.env=pure M) :
  PS X (.Assign [.Subscript o i pos'] value pos) (Q0 td ty tv):=by
 intro pins s Y H D I h;refine wpAny_Assign_Subscript (c7 (hv pins s Y H _ I h) λr s1 ⟨v,H1,I1,rv,q1⟩=>c7 (ho pins s1 Y H1 _ I1 q1) λu s2 ⟨x,H2,I2,rx,q2⟩=>c7 (hi pins s2 Y H2 _ I2 q2) λiv s3 ⟨y,H3,I3,ry,a,H4,ex,g,q3⟩=>?_) hs;subst ex;obtain rfl:u=Value.ref a:=rx;exact xS hu I3 g ry rv λs4 I4=>⟨Y,H4,I4,q3⟩
end
def t9 (h:É)(hb:Ă<h.objs.size):c8 P w H (h.push {cls:=.type "dict",data:=.dict #[]}) h.objs.size (.dK []):=
 ⟨ė _,beq_eq_false_iff_ne.mpr (Ne.symm (Þ hb)),[],.nil,Heap.DictOf.new h⟩
def Th:TE:=λ_ H Q=>∀p,H p=L->Q (.ref p) (bc H p (.dK []))
section
variable {pos:Pos}
def A5:PE X (.Dict [] [] pos) Th:=λpins s Y H Q I h=>
 wpAny_Dict_empty ⟨.ref _,_,I.laid (λ_ _ q=>Ó _ q) (Ñ _) (t9 _ I.big),rfl,h _ (I.hok.fresh (Ñ _))⟩
end
def Dj:List (TE×TE)->St->Hp->(List (V×V)->Hp->Prop)->Prop
 | [],_,H,Q=>Q [] H
 | (tk,tv)::r,Y,H,Q=>tk Y H λx H1=>tv Y H1 λy H2=>Dj r Y H2 λps H3=>Q ((x,y)::ps) H3
abbrev VV:List (V×V)->List (d×d)->Prop:=è λp q=>aX p.1 q.1/\aX p.2 q.2
def YZ (X:Cx)(pos:Pos)(keys:List (Option Æ))(values:List Æ)(QI:List (TE×TE)):Prop:=
 ∀(pins:List (I×Obj)) (s:À) (Y:St) (H:Hp) (Q:List (V×V)->Hp->Prop),aO X pins Y H s->Dj QI Y H Q->
  Á (Ä X.prog X.w) X.A (evalPairs (pairTrees keys values X.env pos)) (λvs s'=>∃ps H',aO X pins Y H' s'/\VV ps vs/\Q ps H') X.xe s
def OQ {pos:Pos}:YZ X pos [] [] []:=λpins s Y H Q I h=>pairTrees_nil_walk ⟨[],H,I,.nil,h⟩
def ko {pos:Pos}{k v:Æ}{ks:List (Option Æ)}{vs:List Æ}{tk tv:TE}{QI:List (TE×TE)}(hk:PE X k tk)(hv:PE X v tv)(hr:YZ X pos ks vs QI) :
  YZ X pos (J k::ks) (v::vs) ((tk,tv)::QI):=λpins s Y H Q I h=>
 pairTrees_cons_walk (c7 (hk pins s Y H _ I h) λu s1 ⟨x,H1,I1,rx,q1⟩=>c7 (hv pins s1 Y H1 _ I1 q1) λw2 s2 ⟨y,H2,I2,ry,q2⟩=>
  c7 (hr pins s2 Y H2 _ I2 q2) λws s3 ⟨ps,H3,I3,rel,q3⟩=>⟨(x,y)::ps,H3,I3,.cons ⟨rx,ry⟩ rel,q3⟩)
def pQ (aV more:List (Key×V)):List (Key×V):=more.foldl (λbX kv=>jw bX kv.1 kv.2) aV
theorem KV.merge:∀{more:List (Key×V)} {rs:List (Key×d)} {aV:List (Key×V)} {vs:List (Key×d)},KV more rs->KV aV vs->KV (pQ aV more) (merged vs rs):=by
 intro more rs aV vs r
 induction r generalizing aV vs with
 |nil=>intro q;exact q
 | @cons p q ps qs h t ih=>
  intro r0;have e:KV (jw aV p.1 p.2) (stored vs q.1 q.2):=by
   have:=r0.put p.1 h.2;lia
  exact ih e
theorem mf:∀(more aV:List (Key×V)),(pQ aV more).length<=aV.length+more.length
 | [],aV=>by show aV.length<=aV.length+0;lia
 |p::r,aV=>by
  have h1:=mf r (jw aV p.1 p.2);grind[kj,pQ,jw,Ù]
theorem t_ {P:ó}{w:â}:∀{aV:List (Key×V)} {ws:List (d×d)},VV (aV.map λkv=>(kV kv.1,kv.2)) ws->∃rs,Carries (c_ P w) ws rs/\KV aV rs
 | [],_,r=>by cases r;exact⟨[],True.intro,.nil⟩
 |p::aV,_,r=>by
  cases r with
  | @cons a b as bs h t=>
   obtain⟨rs,c,q⟩:=t_ t;obtain⟨b1,b2⟩:=b;exact⟨(p.1,b2)::rs,⟨xN h.1,rfl,c⟩,.cons ⟨rfl,h.2⟩ q⟩
def Ka (QI:List (TE×TE)):TE:=λY H Q=>∀p,H p=L->Dj QI Y (bc H p (.dK [])) λps H2=>H2 p=J (.dK [])/\∃aV:List (Key×V),ps=aV.map (λkv=>(kV kv.1,kv.2))/\aV.length<=15/\Q (.ref p) (bc H2 p (.dK (pQ [] aV)))
theorem OR {pos:Pos}{keys:List (Option Æ)}{values:List Æ}{QI:List (TE×TE)}(h:YZ X pos keys values QI)(N5:keys.all (·.isSome)=Z)(hl:keys.length=values.length)(h0:keys≠[])(h15:keys.length<=15):PE X (.Dict keys values pos) (Ka QI):=by
 intro pins s Y H Q I q;have hn:=I.hok.fresh (Ñ _);have I1:=I.laid (t':=s.toks) (λ_ _ q=>Ó _ q) (Ñ _) (t9 _ I.big);refine wpAny_Dict_walk (knd:=c_ _ X.w) N5 hl h0 h15 (c7 (h pins _ Y _ _ I1 (q _ hn)) λws s2 ⟨ps,H2,I2,rel,e,aV,ep,lk,q2⟩=>?_);subst ep;obtain⟨rs,c,rk⟩:=t_ rel;obtain⟨z,hd,vs0,r0,dd⟩:=QY I2.hok e;cases r0;refine⟨rs,c,dd,λh' N4 hs=>⟨.ref _,_,?_,rfl,q2⟩⟩;have hz:(pQ [] aV).length<=Å:=by
  grind[mf,ł,Ĕ]
 have he:∃q,h'.get? _=J q:=let ⟨q,_,_,hq,_⟩:=N4;⟨q,hq⟩
 exact nG I2 (by rw[e];exact True.intro) hs he (J_ hz hd (rk.merge .nil) N4)
structure M1 (X:Cx)(o:Æ)(m:Str)(cO:Pos)(e:Æ)(bW:Pos):Prop where
 base:Ħ o m X.env (Í o X.env)=Í o X.env
 few:((ä bW (Î [e] X.env)).all (λx=> !x.1)&&(backToKw bW (ŧ [] X.env)).all (λx=>x.1.isSome)
  && decide (([e]:List Æ).length+([]:List ĕ).length+(if ([]:List ĕ).isEmpty then 0 else 1)<30))=Z
 line:(cO.endLine==bW.line)=Z
 trees:ä bW (Î [e] X.env)=[(M,Í e X.env)]
structure M2 (X:Cx)(o:Æ)(m:Str)(cO:Pos)(e f:Æ)(bW:Pos):Prop where
 base:Ħ o m X.env (Í o X.env)=Í o X.env
 few:((ä bW (Î [e,f] X.env)).all (λx=> !x.1)&&(backToKw bW (ŧ [] X.env)).all (λx=>x.1.isSome)
  && decide (([e,f]:List Æ).length+([]:List ĕ).length+(if ([]:List ĕ).isEmpty then 0 else 1)<30))=Z
 line:(cO.endLine==bW.line)=Z
 trees:ä bW (Î [e,f] X.env)=[(M,Í e X.env),(M,Í f X.env)]
def IsD (H:Hp)(a:I):Prop:=(∃aV,Rd H a (.dK aV))\/∃aV,Rd H a (.dT aV)
theorem Ti (I:aO X pins Y H s)(d:IsD H a) :
  s.TypeIs (.ref a) "dict"/\(∀b,Value.ref a=.ref b->∃ob,s.heap.get? b=J ob/\ob.dict=L)/\(a==Ă)=M:=by
 rcases d with⟨aV,e⟩|⟨aV,e⟩
 ·obtain⟨_,hd,vs,_,dd⟩:=xP I.hok e;refine⟨dd.typeIs,λb q=>?_,hd⟩;cases q;obtain⟨ob,_,_,h1,h2,_⟩:=dd;exact⟨ob,h1,h2.2.1⟩
 ·obtain⟨_,hd,xs,_,dd⟩:=xQ I.hok e;refine⟨dd.typeIs,λb q=>?_,hd⟩;cases q;obtain⟨ob,_,_,h1,h2,_⟩:=dd;exact⟨ob,h1,h2.2.1⟩
section
variable {d:V}{u r:Ì}{o:Option V}{A:Ð}
theorem Tj (hu:A.units+1<Ò)(I:aO X pins Y H s)(g:yZ H a y o)(ry:aX y u)(rd:aX d r)(h:∀w' s',aO X pins Y H s'->aX (o.getD d) w'->Q w' s') :
  Á (Ä X.prog X.w) A (call (.builtin "dict.get") [.ref a,u,r]) Q E s:=by
 rcases g with⟨aV,k,e,ey,l⟩|⟨aV,k,b,e,ey,eb,l⟩
 ·subst ey;obtain⟨z,hd,vs,rel,dd⟩:=xP I.hok e;refine call_meetsIn ς dd.typeIs Ϧ (ϣ _ _ _) (meets_dict_get_default _ a (xN ry) hd r) ⟨_,dd.mapOf,h _ _ (I.tok _) ?_⟩;rw[l];exact (rel.val k).getD rd
 ·subst ey;cases (show u=Value.ref b from ry);obtain⟨z,hd,xs,rel,dd⟩:=xQ I.hok e;refine call_meetsIn ς dd.typeIs Ϧ (ϣ _ _ _) (meetsH_dict_get_default _ a b hd r) ⟨Ι hu,k,xs,t7 I.hok eb,dd,h _ _ (I.tok _) ?_⟩;rw[l];exact (rel.val k).getD rd
end
end L2
namespace L2
end L2
namespace L2
theorem Dk (hf:∀x,(x,NameKind.free)∈scope.names->∃c,env.cells.lookup x=J c) :
  ∃cl:List (Str×I),closureFor scope env=pure cl/\(∀x c,cl.lookup x=J c->env.cells.lookup x=J c)/\∀x,(x,NameKind.free)∈scope.names->∃c,cl.lookup x=J c:=by
 have gen:∀(names:List _) (cs:List _),(∀x,(x,NameKind.free)∈names->∃c,env.cells.lookup x=J c)->(∀x c,cs.lookup x=J c->env.cells.lookup x=J c)->
   ∃cl:List _,(forIn names cs λ(x:Str×Ũ) (r:List _)=>(match x with|(name,kind)=>if (kind==NameKind.free)=Z then (do let a ←cellOf env name;pure (ForInStep.yield ((name,a)::r))) else pure (ForInStep.yield r):Sem _))=(pure cl:Sem _)/\
    (∀x c,cl.lookup x=J c->env.cells.lookup x=J c)/\(∀x c,cs.lookup x=J c->∃c',cl.lookup x=J c')/\∀x,(x,NameKind.free)∈names->∃c,cl.lookup x=J c:=by
  intro names
  induction names with
  |nil=>intro cs _ h;exact⟨cs,rfl,h,λx c e=>⟨c,e⟩,λx hx=>absurd hx (by simp)⟩
  |cons p r ih=>
   intro cs hn h;obtain⟨n,k⟩:=p;by_cases hk:k=NameKind.free
   ·subst hk;obtain⟨c,hc⟩:=hn n Ï;have h':∀x c',((n,c)::cs).lookup x=J c'->env.cells.lookup x=J c':=λx c' e=>by
     grind
    obtain⟨cl,e1,e2,e3,e4⟩:=ih _ (λx hx=>hn x (Ö _ hx)) h';refine⟨cl,?_,e2,λx c' e=>?_,λx hx=>?_⟩
    ·rw[ϰ];have:cellOf env n=pure c:=by unfold cellOf;rw[hc]
     simp only[this];exact e1
    ·by_cases hx:x=n
     ·subst hx;exact e3 x c (by simp)
     ·exact e3 x c' (by rw[Ŷ,show (x==n)=M from by simpa using hx];exact e)
    ·rcases Ø.mp hx with e|hx
     ·cases e;exact e3 n c (by simp)
     ·exact e4 x hx
   ·obtain⟨cl,e1,e2,e3,e4⟩:=ih cs (λx hx=>hn x (Ö _ hx)) h;grind
 obtain⟨cl,e1,e2,_,e4⟩:=gen _ [] hf (λx c e=>by simp at e);refine⟨cl,?_,e2,e4⟩;exact (congrArg (λm=>m >>= λr=>pure r) e1).trans rfl
structure qR where
 C:I
 s:À
 H:Hp
 fp:List I
 pins:List (I×Obj)
 cl:List (Str×I)
noncomputable abbrev eF (X:Cx)(scope:þ)(N:List Str)(Yqq:qR):Cx where
 prog:=X.prog
 w:=X.w
 K:=X.K
 mg:=X.mg
 base:=X.base
 A:=X.A
 N:=N
 s₀:=Yqq.s
 H₀:=Yqq.H
 env:=compEnvC scope Yqq.cl Yqq.C X.env
 outer:=X.stack
 stack:=X.stack
 ex:=Yqq.fp
 fn:=λ_=>M
 calm:=X.calm
 pn:=X.pn++Yqq.pins
 xe:=λ_ _=>False
noncomputable def sf (i6:þ)(NX:List Str)(scope:þ)(N:List Str)(js:List (Option Nat)):Bool:=
 decide (scope.kind=.function)&&scope.names.all (λy=>decide (y.2≠.cell))&&scope.names.all (λy=>decide (y.2=.local->scope.names.lookup y.1=J .local))&&decide (js.length=N.length) &&
 (js.zip N).all (λp=>match p.1 with|none=>Z|some j=>decide (NX[j]? = J p.2)&&decide (scope.names.lookup p.2=J .free)) &&
 scope.names.all (λy=>decide (y.2=.free->i6.names.lookup y.1=J .cell\/i6.names.lookup y.1=J .free))
structure nH (i6:þ)(NX:List Str)(scope:þ)(N:List Str)(js:List (Option Nat)):Prop where
 kind:scope.kind=.function
 nocell:∀y∈scope.names,y.2≠.cell
 loc:∀y∈scope.names,y.2=.local->scope.names.lookup y.1=J .local
 len:js.length=N.length
 cap:∀(i j:Nat) (x:Str),js[i]? = J (J j)->N[i]? = J x->NX[j]? = J x/\scope.names.lookup x=J .free
 free:∀x,(x,NameKind.free)∈scope.names->i6.names.lookup x=J .cell\/i6.names.lookup x=J .free
theorem sf.to {i6:þ}{NX:List Str}(h:sf i6 NX scope N js=Z):nH i6 NX scope N js:=by
 unfold sf at h;simp only[ß] at h;obtain⟨⟨⟨⟨⟨h1,h2⟩,h3⟩,h4⟩,h5⟩,h6⟩:=h;refine⟨of_decide_eq_true h1,λy hy=>of_decide_eq_true (ì.mp h2 y hy),λy hy=>of_decide_eq_true (ì.mp h3 y hy),of_decide_eq_true h4,λi j x e1 e2=>?_,λx hx=>of_decide_eq_true (ì.mp h6 _ hx) rfl⟩;have hz:(js.zip N)[i]? = J (J j,x):=by
  rw[List.getElem?_zip_eq_some];exact⟨e1,e2⟩
 have q:=ì.mp h5 _ (Ċ hz);simp only[ß] at q;exact⟨of_decide_eq_true q.1,of_decide_eq_true q.2⟩
noncomputable def Fq (js:List (Option Nat))(Y:St):St:=js.map λo=>match o with
 |none=>L
 |some j=>match Y[j]? with
  |some v=>v
  |none=>L
theorem nI (yO:∀y∈scope.names,y.2≠.cell)(h:(relabel scope env).names.lookup x=J .cell\/(relabel scope env).names.lookup x=J .free):(x,NameKind.free)∈scope.names:=by
 have gen:∀k,(k=NameKind.cell\/k=NameKind.free)->(relabel scope env).names.lookup x=J k->(x,NameKind.free)∈scope.names:=λk hk e=>by
  have hm:=Ĵ e;obtain⟨⟨n,k0⟩,hy,q⟩:=Ú.mp hm;grind
 grind
theorem eC {env:Env}{x:Str}:∀{names:List (Str×Ũ)},names.lookup x=J .free->
  (names.map λ(n,k)=>if (k==NameKind.free&&env.scope.kind==.function&&env.kindOf n==J .cell) then (n,NameKind.cell) else (n,k)).lookup x=J .cell \/
  (names.map λ(n,k)=>if (k==NameKind.free&&env.scope.kind==.function&&env.kindOf n==J .cell) then (n,NameKind.cell) else (n,k)).lookup x=J .free
 | [],h=>by simp at h
 | (n,k)::r,h=>by
  rw[Ç];by_cases hx:x==n
  ·grind
  ·have N6:=ϲ.mpr hx;rw[Ŷ,N6] at h;have ih:=eC (env:=env) h;grind
def HJ (X:Cx)(qM:List Æ)(t:TT):Prop:=
 ∀(pins:List (I×Obj)) (s:À) (Y:St) (H:Hp) (Q:Bool->Hp->Prop),aO X pins Y H s->t Y H Q->
  Á (Ä X.prog X.w) X.A (forIn qM Z λc r=>if r=Z then do let ok ←isTrue c X.env (Í c X.env);pure (ForInStep.yield ok) else pure (ForInStep.yield r)) (TP X pins Y Q) X.xe s
def ZJ:TT:=λ_ H Q=>Q Z H
def Kb:HJ X [] ZJ:=λ_ _ _ H _ I h=>wpAny_tests_nil ⟨H,I,h⟩
def Kc {c:Æ}{t:TT}(h:PT X c t):HJ X [c] t:=λpins s Y H Q I q=>wpAny_tests_one (h pins s Y H Q I q)
end L2
namespace L2
theorem kq {A:Ð}{R:Result->À->Prop}{wO:Æ}{pos:Pos}{it bX:d}(I:Nat->À->Prop)(turn:∀n s,I n s->Á (Ä prog w) A (pyNext it) (λr s₁=>match r with
   |none=>R (.ok .next) s₁
   |some v=>Á (Ä prog w) A (letOwnedTupleGo wO it v) (λ_ s₁'=>Á (Ä prog w) A (assign wO env v) (λ_ s₂=>
     Á (Ä prog w) A (forIn qM Z λc r=>if r=Z then do let ok ←isTrue c env (Í c env);pure (ForInStep.yield ok) else pure (ForInStep.yield r)) (λok s₃=>
      if ok=Z then Á (Ä prog w) A (Í elt env) (λx s₄=>
       Á (Ä prog w) A (call (.builtin "list.append") [bX,x]) (λ_ s₅=>∃m,m<n/\I m s₅) (λ_ _=>False) s₄) (λ_ _=>False) s₃
      else ∃m,m<n/\I m s₃) (λ_ _=>False) s₂) (λ_ _=>False) s₁') (λ_ _=>False) s₁) (λ_ _=>False) s)(n:Nat)(h:I n s) :
  codeAny (Ä prog w) A (.compLoop (.ListComp elt [⟨wO,iter,qM,0⟩] scope pos) 0 it bX env) R s:=by
 refine codeAny_loop rfl I (λn s hI=>?_) n h;refine wpAny_noted ?_;rw[compTurn_list];refine t (wpAny_standAt (t (ý (turn n s hI) (λr s₁ h₁=>?_) λ_ _ h'=>h'.elim)));cases r with
 |none=>exact Â h₁
 |some v=>
  refine t (ý h₁ (λ_ s₁' h₁'=>?_) λ_ _ h'=>h'.elim);refine t (ý h₁' (λ_ s₂ h₂=>t (ý h₂ (λok s₃ h₃=>?_) λ_ _ h'=>h'.elim)) λ_ _ h'=>h'.elim);cases ok with
  |false=>exact Â ⟨rfl,h₃⟩
  |true=>
   exact t (t (ý h₃ (λx s₄ h₄=>t (ý h₄ (λ_ s₅ h₅=>Â (Â ⟨rfl,h₅⟩)) λ_ _ h'=>h'.elim)) λ_ _ h'=>h'.elim))
def WA (Jqq:It)(js:List (Option Nat))(g:qR->TG)(tt:qR->TT)(te:qR->TE)(Y:St)(H1:Hp)(P:List V->Hp->Prop):Prop:=
 ∀Yqq:qR,∃W:Nat->Nat->List V->Hp->Prop,(∃m,W 0 m [] H1)/\∀i m ys H2,W i m ys H2->
  (Jqq.stop i H2/\P ys H2) \/
  (Jqq.go i H2/\ys.length<Å/\∃Nx:List V->Hp->Prop,(∀SK H',Nx SK H'->∃m',m'<m/\W (i+1) m' SK H')/\∀x H3,Jqq.yld i H2 x H3->g Yqq x (Fq js Y) H3 λY4 H4=>tt Yqq Y4 H4 λb H5=>
   if b=Z then te Yqq Y4 H5 λy H6=>Nx (ys++[y]) H6 else Nx ys H5)
def Y0 (wi:TI)(js:List (Option Nat))(g:qR->TG)(tt:qR->TT)(te:qR->TE):TE:=λY H Q=>wi Y H λJqq H1=>
 WA Jqq js g tt te Y H1 λys H2=>∀p,H2 p=L->Q (.ref p) (bc H2 p (.lst ys))
theorem uc {E:Ì->À->Prop}{s2:À}{i6:þ}{pos:Pos}{g:qR->TG}{tt:qR->TT}{te:qR->TE}{Jqq:It}{tn:Nat->É->Prop}{P:List V->Hp->Prop}{cl:List (Str×Ý)}{RR:Ì->Ý->Result->À->Prop}(I:aO X pins Y H s2)(hc:X.calm=Z)(T:yT X.prog X.w X.K tg Jqq fp it tn)(nB:tn 0 s2.heap)(f2:∀b∈fp,sd X pins H b)(sW:∀Yqq:qR,PG (eF X scope N Yqq) tg (g Yqq)/\HJ (eF X scope N Yqq) qM (tt Yqq)/\PE (eF X scope N Yqq) elt (te Yqq))(S:nH i6 X.N scope N js)(jq:X.env.scope=i6)(c1:∀x c,cl.lookup x=J c->X.env.cells.lookup x=J c)(c2:∀x,(x,NameKind.free)∈scope.names->∃c,cl.lookup x=J c)(h:WA Jqq js g tt te Y H P)(hR:∀(bX C:Ý) (ys:List V) (H':Hp) (s':À),aO X pins Y (bc H' bX (.lst ys)) s'->(∃m,s'.heap.Ns C m)->sd X pins (bc H' bX (.lst ys)) C->H' bX=L->P ys H'->RR (.ref bX) C (.ok .next) s') :
  Á (Ä X.prog X.w) X.A (newList []) (λbX s₃=>Á (Ä X.prog X.w) X.A (newFunctionEnv scope X.env.globals cl [] X.env.qual L .none (J X.env)) (λYv s₄=>
   codeAny (Ä X.prog X.w) X.A (.compStart (.ListComp elt [⟨tg,iter,qM,0⟩] scope pos) 0 (.ref it) bX {Yv with scope:=relabel scope X.env}) (RR bX Yv.locals) s₄) E s₃) E s2:=by
 refine Į (wpAny_newFunctionEnv S.nocell (by simp) (λh₁ Yw Ve=>?_) S.kind);generalize hH2:s2.heap.push _=H2 at Yw Ve |-;have hC:H2.objs.size=s2.heap.objs.size+1:=by rw[<-hH2,Ī]
 have Zh:s2.heap.objs.size≠H2.objs.size:=by lia
 have QJ:s2.heap.objs.size<=H2.objs.size:=by rw[hC];exact Nat.le_succ _
 have below:∀b,b<s2.heap.objs.size->b≠H2.objs.size/\b≠s2.heap.objs.size:=λb hb=>⟨by rw[hC];exact Þ (ϛ hb),Þ hb⟩;have pH:=λb o e=>Ve.extBut b o (below b (Ô e)).1 (Ó _ (hH2▸Ó _ e));have pj:h₁.PlainList _ #[]:=⟨_,Ve.extBut _ _ Zh (Ó _ (hH2▸Ü _ rfl))⟩;have fpl:∀b∈fp,b<s2.heap.objs.size:=λb hb=>by
  obtain⟨o,e,_⟩:=T.obj _ _ nB b hb;exact Ô e
 generalize hCg:H2.objs.size=C at *;generalize hAg:s2.heap.objs.size=bX at *
 let Yqq:qR:=⟨C,s2,H,fp,pins,cl⟩
 have ok:(eF X scope N Yqq).Ok:=by
  refine⟨I.ok.mod,S.kind,I.ok.glob,I.ok.blt,?_,λx y c e1 e2=>I.ok.inj x y c (c1 x c e1) (c1 y c e2),λx hx=>c2 x (nI S.nocell hx),λx c e=>(by cases e),I.ok.hd,I.ok.frames,.inl rfl,λb hb=>⟨?_,λx c e=>?_⟩,I.bs,ą I.ok.bsz I.sz,λb o e hb=>?_,λb hb hf=>?_,I.stack,I.stkFree⟩
  ·rw[hAg];exact QJ
  ·exact (below b (fpl b hb)).1
  ·exact (f2 b hb).2.2.2.2.1 x c (c1 x c e)
  ·rcases (f2 b hb).2.2.2.1 with z|z
   ·exact I.ok.noex b o e z
   ·exact absurd (ď (Ô (I.ok.bs b o e).1) z) (ĳ _)
  ·rcases Ø.mp (I.stkSub b hf) with z|z
   ·exact (f2 b hb).2.1 z
   ·exact (f2 b hb).2.2.1 z
 have aa1:∀x c,X.env.cells.lookup x=J c->c<bX:=λx c e=>by
  obtain⟨v,q⟩:=I.cell x c e;rw[<-hAg];exact q.lt
 have SG:∀p∈X.pn++pins,p.1<bX:=λp hp=>by rw[<-hAg];exact Ô (I.pin p hp).1
 have Yx:∀b∈Ho X.stack,b<bX:=λb hb=>by
  obtain⟨_,o,ho,_⟩:=I.stack.mem hb;rw[<-hAg];exact Ô ho
 have Yy:∀p∈X.pn++pins,p.1∉Ho X.stack:=λp hp hf=>by
  rcases Ø.mp (I.stkSub _ hf) with z|z
  ·exact (I.pin p hp).2.2.1 z
  ·exact (I.pin p hp).2.2.2.1 z
 have Hj:H bX=L:=by rw[<-hAg];exact I.hok.fresh (Ñ _)
 have hHC:=I.hok.fresh (by rw[hAg];exact QJ);have I4:∀tk ,aO _ [] (Fq js Y) H {s2 with heap:=h₁,toks:=tk}:=λtk=>by
  refine⟨ok,rfl,I.bare,Un.kept pH,⟨_,Yw,λi x v e1 e2 e3=>?_⟩,λx c e=>?_,hHC,λx c e=>I.freeC x c (c1 x c e),λp hp=>?_,I.hok.kept pH,?_⟩
  ·
   have Vf:=e2;unfold Fq at Vf;rw[ç] at Vf;cases hj:js[i]? with
   |none=>rw[hj] at Vf;cases Vf
   |some o=>
    rw[hj] at Vf;cases o with
    |none=>cases Vf
    |some j=>
     have e4:(match Y[j]? with|some v=>v|none=>L)=J v:=Đ Vf;obtain⟨nx,fr⟩:=S.cap i j x hj e1;have e5:Y[j]? = J (J v):=by
      lia
     obtain⟨m,hn,hl⟩:=I.loc;have kx:X.env.scope.names.lookup x=J .cell\/X.env.scope.names.lookup x=J .free:=by rw[jq];exact S.free x (Ĵ fr)
     obtain⟨u,r,lk⟩:=hl j x v nx e5 (.inr kx);refine⟨u,r,.inr ⟨eC fr,?_⟩⟩;obtain⟨c,hcl⟩:=c2 x (Ĵ fr);rcases lk with⟨k,_⟩|⟨k,c',e',z⟩
     ·have k':X.env.scope.names.lookup x=J .local:=k;lia
     ·have:=by
       have:=c1 x c hcl;rw[e'] at this;exact Đ this
      subst this;obtain⟨o,ho,hd⟩:=z;exact⟨c',hcl,o,pH _ _ ho,hd⟩
  ·obtain⟨v,o,ho,hd⟩:=I.cell x c (c1 x c e);exact⟨v,o,pH _ _ ho,hd⟩
  ·have Aw:p∈X.pn++pins:=by simpa using hp
   obtain⟨q1,q2,q3,q4,q5⟩:=I.pin p Aw;exact⟨pH _ _ q1,q2,λz=>absurd (SG p Aw) (by rw[z];exact Nat.not_lt.mpr QJ),Yy p Aw,q5⟩
  ·unfold Fq;rw[Ê];exact S.len
 obtain⟨hg,ht,he⟩:=sW Yqq;obtain⟨W,⟨m0,w0⟩,turn⟩:=h Yqq;have aa2:∀{H':Hp} {pl:List _},H' bX=L->(∀p∈pl,p.1≠bX)->sd (eF X scope N Yqq) pl H' bX:=λ{H' pl} hn hp=>by
  refine⟨hn,Zh,λz=>absurd (Yx _ z) (ĳ _),.inr (by rw[hAg];exact Ñ _),λx c e=>Þ (aa1 x c (c1 x c e)),λp Aw=>?_⟩;rcases ı.mp Aw with z|z
  ·exact Þ (SG p z)
  ·exact hp p z
 have fpF:∀{H':Hp} {pl:List _},(∀b∈fp,H' b=L)->(∀p∈pl,p.1∉fp)->∀b∈fp,sd (eF X scope N Yqq) pl H' b:=λ{H' pl} hn hp b hb=>by
  refine⟨hn b hb,(below b (fpl b hb)).1,λz=>?_,.inl hb,λx c e=>(f2 b hb).2.2.2.2.1 x c (c1 x c e),λp Aw=>?_⟩
  ·rcases Ø.mp (I.stkSub b z) with q|q
   ·exact (f2 b hb).2.1 q
   ·exact (f2 b hb).2.2.1 q
  ·rcases ı.mp Aw with z|z
   ·exact (f2 b hb).2.2.2.2.2 p z
   grind
 have anf:bX∉fp:=λz=>absurd (fpl bX z) (by lia);have aa4:∀{i:Nat} {x:Str} {v:V},N[i]? = J x->(Fq js Y)[i]? = J (J v)->∃u c o,aX v u/\scope.names.lookup x=J .free/\cl.lookup x=J c/\s2.heap.get? c=J o/\o.data=.cell (J u):=λ{i x v} e1 e2=>by
  unfold Fq at e2;rw[ç] at e2;cases hj:js[i]? with
  |none=>rw[hj] at e2;cases e2
  |some o=>
   rw[hj] at e2;cases o with
   |none=>cases e2
   |some j=>
    have e4:(match Y[j]? with|some v=>v|none=>L)=J v:=Đ e2;obtain⟨nx,fr⟩:=S.cap i j x hj e1;have e5:Y[j]? = J (J v):=by
     lia
    obtain⟨m,hn,hl⟩:=I.loc;have kx:X.env.scope.names.lookup x=J .cell\/X.env.scope.names.lookup x=J .free:=by rw[jq];exact S.free x (Ĵ fr)
    obtain⟨u,r,lk⟩:=hl j x v nx e5 (.inr kx);obtain⟨c,hcl⟩:=c2 x (Ĵ fr);rcases lk with⟨k,_⟩|⟨k,c',e',z⟩
    ·have k':X.env.scope.names.lookup x=J .local:=k;rcases kx with q|q<;>· rw[q] at k';cases k'
    ·have:=by
      have:=c1 x c hcl;rw[e'] at this;exact Đ this
     subst this;obtain⟨o,ho,hd⟩:=z;exact⟨u,c',o,r,fr,hcl,ho,hd⟩
 have Yz:∀{pl:List _} {Y':St} {H':Hp} {s':À},aO _ pl Y' H' s'->aO (eF X scope N Yqq) pl _ H' s':=λ{pl Y' H' s'} K=>by
  refine⟨K.ok,K.os,K.bare,K.base,?_,K.cell,K.free,K.freeC,K.pin,K.hok,?_⟩
  ·obtain⟨m,hn,_⟩:=K.loc;refine⟨m,hn,λi x v e1 e2 e3=>?_⟩;obtain⟨u,c,o,r,fr,hcl,ho,hd⟩:=aa4 e1 e2;refine⟨u,r,.inr ⟨eC fr,c,hcl,?_⟩⟩;obtain⟨sl,q⟩:=K.base.any ho (I.freeC x c (c1 x c hcl)) λz=>(f2 c z).2.2.2.2.1 x c (c1 x c hcl) rfl;exact⟨_,q,hd⟩
  ·unfold Fq;rw[Ê];exact S.len
 have loop:∀tk ,codeAny (Ä X.prog X.w) X.A (.compLoop (.ListComp elt [⟨tg,iter,qM,0⟩] scope pos) 0 (.ref it) (.ref bX) (compEnvC scope cl C X.env)) (RR (.ref bX) C) {s2 with heap:=h₁,toks:=tk}:=by
  intro tk;refine kq (λn s'=>∃(i:Nat) (ys:List V) (aH:List Ì) (H':Hp),aO _ [] _ H' s'/\tn i s'.heap/\(∀b∈fp,H' b=L)/\H' bX=L/\s'.heap.PlainList bX aH.toArray/\aZ ys aH/\ys.length<=Å/\W i n ys H') ?_ m0
   ⟨0,[],[],H,I4 tk,T.keep _ _ _ nB (λb hb o e=>pH b o e),λb hb=>(f2 b hb).1,Hj,pj,.nil,ė _,w0⟩
  rintro n s3 ⟨i,ys,aH,H3,I3,Vo,fr3,na3,⟨nn,ea⟩,rv3,hz3,w3⟩;have Vg:∀p∈[(bX,({cls:=.type "list",data:=.seq aH.toArray nn}:Obj))],p.1∉fp:=λp hp=>by
   have e:=by simpa using hp
   rw[e];exact anf
  have Ip:aO _ [(bX,({cls:=.type "list",data:=.seq _ nn}:Obj))] _ H3 s3:=I3.pins_of λp hp=>by
   have e:=by simpa using hp
   subst e;exact⟨ea,na3,Zh,λz=>absurd (Yx _ z) (ĳ _),λv z=>by cases z⟩
  rcases turn i n ys H3 w3 with⟨stop,p⟩|⟨go,pq,Nx,hNx,step⟩
  ·refine ý (T.done (eF X scope N Yqq) rfl rfl rfl hc i _ s3 _ H3 _ Ip (fpF fr3 Vg) Vo stop) (λr s4 hr4=>?_) λ_ _ z=>z;obtain⟨hr,J4⟩:=hr4;subst hr;have pa:=(J4.pin _ (ĉ _ Ï)).1;have u:Un _ fp H (bc H3 bX (.lst ys)) s2.heap s4.heap:=
    ⟨J4.base.keep,J4.base.slot,λb o e nb hx=>by rw[aG (below b (by rw[<-hAg];exact Ô e)).2];exact J4.base.free b o e nb hx,J4.base.there,
     λb xs e=>by rw[aG (bM e Hj)];exact J4.base.tups b xs e,λb o w' e=>by rw[aG (bM e Hj)];exact J4.base.frzs b o w' e,λb ps e=>by rw[aG (bM e Hj)];exact J4.base.tbls b ps e⟩
   have hok:jZ X.prog X.w (bc H3 bX (.lst ys)) s4.heap:=λb o e=>by
    by_cases hb:b=bX
    ·subst hb;rw[aI] at e;cases e;exact⟨hz3,aH,nn,rv3,pa⟩
    ·rw[aG hb] at e;refine (J4.hok b o e).stay (λ_ _ _ q=>q) (λc q=>?_) λc xs q=>?_
     ·rw[aG (bM q na3)];exact q
     ·rw[aG (bM q na3)];exact q
   have aa5:=I.call' J4.os u hok J4.bare λb hb=>⟨(f2 b hb).2.2.2.1,(f2 b hb).2.1,(f2 b hb).2.2.2.2.1,(f2 b hb).2.2.2.2.2⟩;have ns4:∃m,s4.heap.Ns C m:=by obtain⟨m,hn,_⟩:=J4.loc;exact⟨m,hn⟩
   exact hR bX C ys H3 s4 aa5 ns4 (I.fpOk (by rw[hAg];exact QJ) (by rw[aG (Ne.symm Zh)];exact J4.free)) na3 p
  ·refine ý (T.item (eF X scope N Yqq) rfl rfl rfl hc i _ s3 _ H3 _ Ip (fpF fr3 Vg) Vo go) (λr s4 h4=>?_) λ_ _ z=>z;obtain⟨u,hr,h4⟩:=h4;subst hr;refine ý h4 (λ_ s5 h5=>?_) λ_ _ z=>z;obtain⟨x,H5,I5,r5,y5,st5,fr5⟩:=h5;have I5':=I5.pinned (fpF fr5 Vg) (T.obj _ _ st5);refine ý (hg _ s5 _ H5 x u _ I5' r5 (step x H5 y5)) (λ_ s6 h6=>?_) λ_ _ z=>z;obtain⟨Y6,H6,I6,q6⟩:=h6;refine ý (ht _ s6 Y6 H6 _ I6 q6) (λb s7 h7=>?_) λ_ _ z=>z;obtain⟨H7,I7,q7⟩:=h7;have YA:∀{H8:Hp} {Y8:St} {s8:À},aO (eF X scope N Yqq) ([(bX,({cls:=.type "list",data:=.seq aH.toArray nn}:Obj))]++yU fp s5.heap) Y8 H8 s8->
     s8.heap.get? bX=J _/\H8 bX=L/\(∀b∈fp,H8 b=L)/\(∀b∈fp,∀o,s5.heap.get? b=J o->s8.heap.get? b=J o):=λ{H8 Y8 s8} K=>by
    have q:=K.pin _ (ĉ _ (Ł _ Ï));refine⟨q.1,q.2.1,λb hb=>?_,λb hb o e=>(K.pin (b,o) (ĉ _ (ĉ _ (jr hb e)))).1⟩;obtain⟨o,e,d⟩:=T.obj _ _ st5 b hb;exact (K.pin (b,o) (ĉ _ (ĉ _ (jr hb e)))).2.1
   have N7:∀{H8:Hp} {Y8:St} {s8:À} {pl:List _},aO _ pl Y8 H8 s8->aO (eF X scope N Yqq) [] Y8 H8 s8:=λK=>K.pins_of λp hp=>absurd hp (by simp);cases b with
   |false=>
    obtain⟨m',hm,w7⟩:=hNx _ _ q7;obtain⟨p1,p2,p3,p4⟩:=YA I7;exact⟨m',hm,i+1,ys,aH,H7,Yz (N7 I7),T.keep _ _ _ st5 p4,p3,p2,⟨nn,p1⟩,rv3,hz3,w7⟩
   |true=>
    refine ý (he _ s7 Y6 H7 _ I7 q7) (λv s8 h8=>?_) λ_ _ z=>z;obtain⟨y,H8,I8,r8,q8⟩:=h8;obtain⟨m',hm,w8⟩:=hNx _ _ q8;obtain⟨p1,p2,p3,p4⟩:=YA I8;refine wpAny_list_append_plain ⟨nn,p1⟩ (λh' pl' sb=>?_) (by rw[å,<-rv3.length];exact hz3);obtain⟨f0,f1,f2',f3,f4,f5⟩:=aa2 (pl:=[]) p2 (by simp);have I9:=(N7 I8).turned (t':=s8.toks) (λb o hb e=>(sb.2 b hb).trans e) f0 f1 f3 f4 f5;refine⟨m',hm,i+1,ys++[y],aH++[v],H8,Yz I9,T.keep _ _ _ st5 (λb hb o e=>(sb.2 b (λz=>anf (z▸hb))).trans (p4 b hb o e)),p3,p2,?_,rv3.append (.cons r8 .nil),?_,w8⟩
    ·grind
    ·rw[ã];exact pq
 exact codeAny_compStart_list (loop _) (T.self _ _ _ _ _ (T.keep _ _ _ nB (λb hb o e=>pH b o e)) (loop _))
def ud {i6:þ}(I:aO X pins Y H s)(S:nH i6 X.N scope N js)(jq:X.env.scope=i6) :
  ∃cl:List (Str×Ý),closureFor scope X.env=pure cl/\(∀x c,cl.lookup x=J c->X.env.cells.lookup x=J c)/\∀x,(x,NameKind.free)∈scope.names->∃c,cl.lookup x=J c:=
 Dk λx hx=>I.ok.has x (by
  have:=S.free x hx;rw[<-jq] at this;exact this)
theorem Q1 {pos:Pos}{g:qR->TG}{tt:qR->TT}{te:qR->TE}(i6:þ)(NX N:List Str)(js:List (Option Nat))(hc:X.calm=Z)(hi:PI X tg iter wi)(sW:∀Yqq:qR,PG (eF X scope N Yqq) tg (g Yqq)/\HJ (eF X scope N Yqq) qM (tt Yqq)/\PE (eF X scope N Yqq) elt (te Yqq))(jq:X.env.scope=i6:=by rfl)(JB:X.N=NX:=by rfl)(hS:sf i6 NX scope N js=Z:=by decide+kernel)(hs:∀x,ĭ iter X.env x=pure x:=by intro _;rfl):PE X (.ListComp elt [⟨tg,iter,qM,0⟩] scope pos) (Y0 wi js g tt te):=by
 intro pins s Y H Q I h;have S:nH i6 X.N scope N js:=by rw[JB];exact sf.to hS
 obtain⟨cl,e1,e2,e3⟩:=ud I S jq;refine wpAny_comprehension_free rfl hs e1 S.kind S.loc (c7 (hi pins s Y H _ I h) λv s1 h1=>c7 h1 λZe s2 h2=>?_);obtain⟨it,fp,tn,Jqq,H2,e,I2,T,nB,f2,q⟩:=h2;subst e;refine uc I2 hc T nB f2 sW S jq e2 e3 q ?_;intro bX C ys H' s' I' ns fC na p;obtain⟨m,hn⟩:=ns;obtain⟨f0,f1,f2',f3,f4,f5⟩:=fC;exact⟨m,hn,λh' sb=>⟨.ref bX,_,I'.turned (λb o hb e=>(sb.2 b hb).trans e) f0 f1 f3 f4 f5,rfl,p bX na⟩⟩
theorem ue {pos Ax:Pos}{g:qR->TG}{tt:qR->TT}{te:qR->TE}(i6:þ)(NX N:List Str)(js:List (Option Nat))(hN:X.N.Nodup)(hx:X.N[i]? = J x)(hl:JE X.env.scope x)(hc:X.calm=Z)(hi:PI X tg iter wi)(sW:∀Yqq:qR,PG (eF X scope N Yqq) tg (g Yqq)/\HJ (eF X scope N Yqq) qM (tt Yqq)/\PE (eF X scope N Yqq) elt (te Yqq))(jq:X.env.scope=i6:=by rfl)(JB:X.N=NX:=by rfl)(hS:sf i6 NX scope N js=Z:=by decide+kernel)(hw:Ē (.ListComp elt [⟨tg,iter,qM,0⟩] scope Ax) (J (.Name x pos')) pos.line X.env=pure Z:=by rfl)(hf:X.fn x=Z\/X.env.scope.names.lookup x=J .local:=by first|exact .inl rfl|exact .inr rfl|assumption)(hs:∀x,ĭ iter X.env x=pure x:=by intro _;rfl) :
  PS X (.Assign [.Name x pos'] (.ListComp elt [⟨tg,iter,qM,0⟩] scope Ax) pos) (Hq (Y0 wi js g tt te) (xD i)):=by
 intro pins s Y H D I h;have S:nH i6 X.N scope N js:=by rw[JB];exact sf.to hS
 obtain⟨cl,e1,e2,e3⟩:=ud I S jq;rw[exec_Assign_Name_used _ _ _ _ hw];refine t (wpAny_standAt (t ?_));refine t (ý (wpAny_comprehension_free rfl hs e1 S.kind S.loc
  (c7 (hi pins s Y H _ I h) λv s1 h1=>c7 h1 λZe s2 h2=>?_)) (λ_ s' hq=>Â (Â hq)) λ_ _ e=>e)
 obtain⟨it,fp,tn,Jqq,H2,e,I2,T,nB,f2,q⟩:=h2;subst e;refine uc I2 hc T nB f2 sW S jq e2 e3 q ?_;intro bX C ys H' s' I' ns fC na p;obtain⟨m,hn⟩:=ns;obtain⟨f0,f1,f2',f3,f4,f5⟩:=fC;refine wpAny_assign_Name (xC I' hN hx hl (v:=.ref bX) rfl (λVP I'' sbx=>?_) hf);obtain⟨a,sb,ha⟩:=sbx;have aC:C≠a:=by
  grind
 refine⟨m,hn.sameBut sb aC,λh' sb'=>⟨_,_,I''.turned (λb o hb e=>(sb'.2 b hb).trans e) f0 f1 f3 f4 f5,?_⟩⟩;exact p bX na
def WB (Jqq:It)(g:TG)(tb:TS)(D:lX)(Y:St)(H1:Hp):Prop:=∃W:Nat->Nat->St->Hp->Prop,(∃m,W 0 m Y H1)/\∀i m Y H,W i m Y H->
 (Jqq.stop i H/\D.nx Y H)\/(Jqq.go i H/\∃N:St->Hp->Prop,(∀Y' H',N Y' H'->∃m',m'<m/\W (i+1) m' Y' H')/\∀x H',Jqq.yld i H x H'->g x Y H' λY2 H2=>tb {D with nx:=N,ct:=N,bk:=D.nx} Y2 H2)
def WC (wi:TI)(g:TG)(tb:TS):TS:=λD Y H=>wi Y H λJqq H1=>WB Jqq g tb D Y H1
def Fs {g:TG}{tb:TS}{pos:Pos}(hp:ř (Ä X.prog X.w) X.A X.env X.xe)(hc:X.calm=Z)(hi:PI X tg iter wi)(hg:PG X tg g)(hb:tX X body tb)(hs:∀x,ĭ iter X.env x=pure x:=by intro _;rfl):PS X (.For tg iter body [] pos) (WC wi g tb):=S7 hp hc hi hg hb hs
end L2
namespace L2
inductive D where
 |non|bl (b:Bool)|int (i:Int)|str (x:Str)|tup (xs:List D)|lst (xs:List D)
instance:Inhabited D:=⟨.non⟩
mutual
def iO (K:È)(H:Hp):D->V->Prop
 | .non,v=>v=.non
 | .bl b,v=>v=.bl b
 | .int i,v=>v=.int i
 | .str x,v=>v=.str x
 | .tup ds,v=>∃a xs,v=.ref a/\gR K H a xs/\f7 K H ds xs
 | .lst ds,v=>∃a xs,v=.ref a/\fG K H a xs/\f7 K H ds xs
def f7 (K:È)(H:Hp):List D->List V->Prop
 | [],xs=>xs=[]
 |d::ds,xs=>∃x r,xs=x::r/\iO K H d x/\f7 K H ds r
end
mutual
noncomputable def lu:D->D->Bool
 | .non,.non=>Z
 | .bl a,.bl b=>a==b
 | .bl a,.int b=>(if a then 1 else 0)==b
 | .int a,.bl b=>a==(if b then 1 else 0)
 | .int a,.int b=>a==b
 | .str a,.str b=>a==b
 | .tup xs,.tup ys=>j9 xs ys
 | .lst xs,.lst ys=>j9 xs ys
 |_,_=>M
noncomputable def j9:List D->List D->Bool
 | [],[]=>Z
 |x::xs,y::ys=>lu x y&&j9 xs ys
 |_,_=>M
end
mutual
noncomputable def fI:D->Nat
 | .tup xs=>j3 xs+1
 | .lst xs=>j3 xs+1
 |_=>0
noncomputable def j3:List D->Nat
 | []=>0
 |x::xs=>max (fI x) (j3 xs)
end
theorem f7.length {K:È}{H:Hp}:∀{ds:List D} {xs:List V},f7 K H ds xs->ds.length=xs.length
 | [],_,h=>by subst h;rfl
 |d::ds,_,h=>by
  obtain⟨x,r,rfl,_,q⟩:=h;rw[Ù,Ù,f7.length q]
theorem f7.get {K:È}{H:Hp}:∀{ds:List D} {xs:List V} {i:Nat} {d:D} {x:V},f7 K H ds xs->ds[i]? = J d->xs[i]? = J x->iO K H d x
 | [],_,_,_,_,_,e,_=>by simp at e
 |d::ds,_,i,d',x',h,e1,e2=>by
  obtain⟨x,r,rfl,p,q⟩:=h;cases i with
  |zero=>grind
  |succ i=>exact f7.get q (by simpa using e1) (by simpa using e2)
theorem lx:∀{ds:List D} {i:Nat} {d:D},ds[i]? = J d->fI d<=j3 ds
 | [],_,_,e=>by simp at e
 |d::ds,i,d',e=>by
  cases i with
  |zero=>simp at e;subst e;exact Nat.le_max_left _ _
  |succ i=>exact ą (lx (by simpa using e)) (Nat.le_max_right _ _)
def nJ (xs ys:List D)(j:Nat):Bool:=match xs[j]?,ys[j]? with
 |some a,J b=>lu a b
 |_,_=>Z
theorem i8:∀(xs ys:List D),((ā (min xs.length ys.length)).all (nJ xs ys)&&xs.length==ys.length)=j9 xs ys
 | [],[]=>by simp[j9]
 | [],_::_=>by simp[j9]
 |_::_,[]=>by simp[j9]
 |x::xs,y::ys=>by
  have ih:=i8 xs ys;unfold j9;rw[<-ih,Ù,Ù,Nat.add_min_add_right,List.range_succ_eq_map,ĺ,List.all_map];have e0:nJ (x::xs) (y::ys) 0=lu x y:=rfl;have e1:(nJ (x::xs) (y::ys)∘Nat.succ)=nJ xs ys:=by funext j;simp[nJ]
  rw[e0,e1,Bool.and_assoc];simp
def A6 {xs ys:List D}(h:xs.length≠ys.length):j9 xs ys=M:=by
 rw[<-i8,show (xs.length==ys.length)=M from by simpa using h,Bool.and_false]
mutual
theorem uf:∀d:D,lu d d=Z
 | .non=>rfl
 | .bl b=>by unfold lu;simp
 | .int b=>by unfold lu;simp
 | .str b=>by unfold lu;simp
 | .tup xs=>by unfold lu;exact pR xs
 | .lst xs=>by unfold lu;exact pR xs
theorem pR:∀ds:List D,j9 ds ds=Z
 | []=>rfl
 |d::ds=>by unfold j9;rw[uf d,pR ds];rfl
end
theorem WD {ys:List V}(I:aO X pins Y H s)(h:fG X.K H a xs)(h':gR X.K H a ys):False:=by
 obtain⟨aH,_,p,_⟩:=I.list h;obtain⟨sV,_,q,_⟩:=I.tuple h';exact absurd rfl (SeqAt.ne_of_list_tuple p.isList q)
theorem A7 (I:aO X pins Y H s):∀n d1 d2 x,fI d1<=n->iO X.K H d1 x->iO X.K H d2 x->lu d1 d2=Z:=by
 have lists:∀n,(∀d1 d2 x,fI d1<=n->iO X.K H d1 x->iO X.K H d2 x->lu d1 d2=Z)->∀(ds es:List D) (xs:List V),j3 ds<=n->f7 X.K H ds xs->f7 X.K H es xs->j9 ds es=Z:=by
  intro n ih ds
  induction ds with
  |nil=>
   intro es xs _ h1 h2;subst h1;cases es with
   |nil=>rfl
   |cons e es=>obtain⟨x,r,e',_⟩:=h2;cases e'
  |cons d ds ihd=>
   intro es xs hd h1 h2;obtain⟨x,r,rfl,p,q⟩:=h1;cases es with
   |nil=>cases h2
   |cons e es=>
    obtain⟨x',r',e',p',q'⟩:=h2;cases e';unfold j9;rw[ih d e x (ą (Nat.le_max_left _ _) hd) p p',ihd es r (ą (Nat.le_max_right _ _) hd) q q'];rfl
 intro n
 induction n with
 |zero=>
  intro d1 d2 x hd h1 h2;have fl:∀d,iO X.K H d x->(∃a,x=.ref a)\/(d=.non/\x=.non)\/(∃b,d=.bl b/\x=.bl b)\/(∃b,d=.int b/\x=.int b)\/∃b,d=.str b/\x=.str b:=λd h=>by
   cases d with
   |non=>exact .inr (.inl ⟨rfl,h⟩)
   |bl b=>exact .inr (.inr (.inl ⟨b,rfl,h⟩))
   |int b=>exact .inr (.inr (.inr (.inl ⟨b,rfl,h⟩)))
   |str b=>exact .inr (.inr (.inr (.inr ⟨b,rfl,h⟩)))
   |tup ds=>obtain⟨a,_,e,_⟩:=h;exact .inl ⟨a,e⟩
   |lst ds=>obtain⟨a,_,e,_⟩:=h;exact .inl ⟨a,e⟩
  have nr:¬∃a,x=.ref a:=λh00=>by
   obtain⟨a,e⟩:=h00;subst e;cases d1 with
   |tup ds=>grind[fI]
   |lst ds=>grind[fI]
   |_=>cases h1
  have f1:=fl d1 h1;have f2:=fl d2 h2;rcases f1 with f1|⟨rfl,rfl⟩|⟨b,rfl,rfl⟩|⟨b,rfl,rfl⟩|⟨b,rfl,rfl⟩
  ·grind
  all_goals
   rcases f2 with f2|⟨rfl,f2⟩|⟨c,rfl,f2⟩|⟨c,rfl,f2⟩|⟨c,rfl,f2⟩
   ·exact absurd f2 nr
   all_goals first|(cases f2;exact uf _)|cases f2
 |succ n ih=>
  intro d1 d2 x hd h1 h2;cases d1 with
  |tup ds=>
   obtain⟨a,xs,rfl,hs,hr⟩:=h1;cases d2 with
   |tup es=>
    obtain⟨a',xs',e,pJ,hr'⟩:=h2;cases e;have:=I.tuple_inj hs pJ;subst this;exact lists n ih ds es xs (by grind[fI]) hr hr'
   |lst es=>
    obtain⟨a',xs',e,pJ,hr'⟩:=h2;grind[WD]
   |_=>cases h2
  |lst ds=>
   obtain⟨a,xs,rfl,hs,hr⟩:=h1;cases d2 with
   |lst es=>
    obtain⟨a',xs',e,pJ,hr'⟩:=h2;cases e;have:=I.list_inj hs pJ;subst this;exact lists n ih ds es xs (by grind[fI]) hr hr'
   |tup es=>
    obtain⟨a',xs',e,pJ,hr'⟩:=h2;grind[WD]
   |_=>cases h2
  |_=>exact ih _ d2 x (by exact ė _) h1 h2
inductive Tn (K:È)(H:Hp)(s:À):D->V->d->Prop
 |non:Tn K H s .non .non .none
 |bl (b:Bool):Tn K H s (.bl b) (.bl b) (.bool b)
 |int (i:Int) (t:Tok):Tn K H s (.int i) (.int i) (.int i t)
 |str (x:Str) (t:Tok):Tn K H s (.str x) (.str x) (.str x t)
 |tup {ds:List D} {a:I} {xs:List V} {aH:List d} (hs:gR K H a xs) (hr:f7 K H ds xs) (rv:aZ xs aH) (p:IsTup s.heap a aH.toArray):Tn K H s (.tup ds) (.ref a) (.ref a)
 |lst {ds:List D} {a:I} {xs:List V} {aH:List d} (hs:fG K H a xs) (hr:f7 K H ds xs) (rv:aZ xs aH) (p:s.heap.IsList a aH.toArray):Tn K H s (.lst ds) (.ref a) (.ref a)
theorem Vx (I:aO X pins Y H s):∀{d:D} {x:V} {u:Ì},iO X.K H d x->aX x u->Tn X.K H s d x u:=by
 intro d x u h r;cases d<;>unfold iO at h
 case tup=>obtain⟨a,xs,rfl,hs,hr⟩:=h;cases r;obtain⟨aH,rv,p,_⟩:=I.tuple hs;exact .tup hs hr rv p
 case lst=>obtain⟨a,xs,rfl,hs,hr⟩:=h;cases r;obtain⟨aH,rv,p,_⟩:=I.list hs;exact .lst hs hr rv p.isList
 all_goals subst h
 case non=>cases r;exact .non
 case bl=>cases r;exact .bl _
 case int=>obtain⟨t,rfl⟩:=r;exact .int _ _
 case str=>obtain⟨t,rfl⟩:=r;exact .str _ _
section
variable {A:Ð}{ds es:List D}{N8 N9:List V}{i1 i2:List d}
theorem xT (v1:aZ N8 i1)(v2:aZ N9 i2)(r1:f7 X.K H ds N8)(r2:f7 X.K H es N9)(f:∀(j:Nat) (d e:D) (x y:V) (u v:Ì),ds[j]? = J d->iO X.K H d x->iO X.K H e y->aX x u->aX y v->Ĭ A s u v (lu d e)) :
  ∀j (h1:j<i1.toArray.size) (h2:j<i2.toArray.size),Ĭ A s i1.toArray[j] i2.toArray[j] (nJ ds es j):=λj g1 g2=>by
 have l1:=v1.length;have l2:=v2.length;have k1:=r1.length;have k2:=r2.length;rw[å] at g1 g2;have q1:ds[j]? = J _:=á (by lia);have q2:es[j]? = J _:=á (by lia);have e1:N8[j]? = J _:=á (by lia);have e2:N9[j]? = J _:=á (by lia);obtain⟨u1,z1,w1⟩:=v1.get e1;obtain⟨u2,z2,w2⟩:=v2.get e2;have y1:i1.toArray[j]=u1:=by obtain⟨_,q⟩:=é.mp z1;simpa using q
 have y2:i2.toArray[j]=u2:=by obtain⟨_,q⟩:=é.mp z2;simpa using q
 have:nJ ds es j=lu ds[j] es[j]:=by unfold nJ;rw[q1,q2]
 rw[y1,y2,this];exact f j _ _ _ _ _ _ q1 (r1.get q1 e1) (r2.get q2 e2) w1 w2
variable (v1:aZ N8 i1)(v2:aZ N9 i2)(r1:f7 X.K H ds N8)(r2:f7 X.K H es N9)(hu:A.units<Ò)(he:∀j (h1:j<i1.toArray.size) (h2:j<i2.toArray.size),Ĭ A.in1 s i1.toArray[j] i2.toArray[j] (nJ ds es j))
include v1 v2 r1 r2 hu he
theorem xU:i1.toArray.size=ds.length/\i2.toArray.size=es.length:=by rw[å,å,<-v1.length,<-v2.length,r1.length,r2.length];lia
theorem Ke (p1:IsTup s.heap a1 i1.toArray)(p2:IsTup s.heap a2 i2.toArray):SeqAt.RcAt A s (.ref a1) (.ref a2) (lu (.tup ds) (.tup es)):=by
 have q:=SeqAt.RcAt.tuples p1 p2 hu he;rw[(xU v1 v2 r1 r2 hu he).1,(xU v1 v2 r1 r2 hu he).2,i8] at q;exact q
theorem Kg (p1:IsTup s.heap a1 i1.toArray)(p2:IsTup s.heap a2 i2.toArray):ϩ A s (.ref a1) (.ref a2) (!lu (.tup ds) (.tup es)):=by
 have q:=SeqAt.RcNeAt.tuples p1 p2 hu he;rw[(xU v1 v2 r1 r2 hu he).1,(xU v1 v2 r1 r2 hu he).2,i8] at q;exact q
theorem Kh (p1:s.heap.IsList a1 i1.toArray)(p2:s.heap.IsList a2 i2.toArray):SeqAt.RcAt A s (.ref a1) (.ref a2) (lu (.lst ds) (.lst es)):=by
 obtain⟨l1,l2⟩:=xU v1 v2 r1 r2 hu he;unfold lu;by_cases hl:ds.length=es.length
 ·have q:=SeqAt.RcAt.lists p1 p2 (by rw[l1,l2,hl]) hu he;have z:=i8 ds es;rw[hl,Nat.min_self,beq_self_eq_true,Bool.and_true] at z;rw[l1,hl,z] at q;exact q
 ·rw[A6 hl];exact SeqAt.RcAt.lists_lengths p1 p2 (by rw[l1,l2];simpa using hl) hu
theorem Ki (p1:s.heap.IsList a1 i1.toArray)(p2:s.heap.IsList a2 i2.toArray):ϩ A s (.ref a1) (.ref a2) (!lu (.lst ds) (.lst es)):=by
 obtain⟨l1,l2⟩:=xU v1 v2 r1 r2 hu he;unfold lu;by_cases hl:ds.length=es.length
 ·have q:=SeqAt.RcNeAt.lists p1 p2 (by rw[l1,l2,hl]) hu he;have z:=i8 ds es;rw[hl,Nat.min_self,beq_self_eq_true,Bool.and_true] at z;rw[l1,hl,z] at q;exact q
 ·rw[A6 hl];exact SeqAt.RcNeAt.lists_lengths p1 p2 (by rw[l1,l2];simpa using hl) hu
end
theorem Dl (I:aO X pins Y H s):∀(n:Nat) (d1 d2:D) (x y:V) (u v:Ì) (A:Ð),fI d1<=n->A.units+n<Ò->iO X.K H d1 x->iO X.K H d2 y->aX x u->aX y v->Ĭ A s u v (lu d1 d2):=by
 intro n
 induction n using Nat.strongRecOn with|ind n ih=>
 intro d1 d2 x y u v A hd hu h1 h2 r1 r2;have dB:A.units<Ò:=by lia
 have hi:∀{ds:List D} {j:Nat} {d e:D} {x y:V} {u v:Ì},j3 ds+1<=n->ds[j]? = J d->iO X.K H d x->iO X.K H e y->aX x u->aX y v->Ĭ A.in1 s u v _:=λ{ds j d e x y u v} hn q a b c d'=>ih (n-1) (by lia) _ _ _ _ _ _ _ (by have:=lx q;lia) (by lia) a b c d';cases Vx I h1 r1<;>cases Vx I h2 r2
 ·exact ό _
 ·exact SeqAt.EqAt.none_bool _
 ·exact SeqAt.EqAt.none_int _ _
 ·exact SeqAt.EqAt.none_str _ _
 ·exact SeqAt.EqAt.none_tuple ‹_› dB
 ·exact SeqAt.EqAt.none_list ‹_› dB
 ·exact SeqAt.EqAt.bool_none _
 ·exact SeqAt.EqAt.bool_bool _ _
 ·exact SeqAt.EqAt.bool_int _ _ _
 ·exact SeqAt.EqAt.bool_str _ _ _
 ·exact SeqAt.EqAt.bool_tuple _ ‹_› dB
 ·exact SeqAt.EqAt.bool_list _ ‹_› dB
 ·exact SeqAt.EqAt.int_none _ _
 ·exact SeqAt.EqAt.int_bool _ _ _
 ·exact SeqAt.EqAt.int_int _ _ _ _
 ·exact SeqAt.EqAt.int_str _ _ _ _
 ·exact SeqAt.EqAt.int_tuple _ _ ‹_› dB
 ·exact SeqAt.EqAt.int_list _ _ ‹_› dB
 ·exact SeqAt.EqAt.str_none _ _
 ·exact SeqAt.EqAt.str_bool _ _ _
 ·exact SeqAt.EqAt.str_int _ _ _ _
 ·exact SeqAt.EqAt.str_str _ _ _ _
 ·exact SeqAt.EqAt.str_tuple _ _ ‹_› dB
 ·exact SeqAt.EqAt.str_list _ _ ‹_› dB
 ·exact SeqAt.EqAt.tuple_none ‹_› dB
 ·exact SeqAt.EqAt.tuple_bool _ ‹_› dB
 ·exact SeqAt.EqAt.tuple_int _ _ ‹_› dB
 ·exact SeqAt.EqAt.tuple_str _ _ ‹_› dB
 ·rename_i ds a1 N8 i1 AJ CJ CK p1 es a2 N9 i2 pG Ay wU p2;by_cases hab:a1=a2
  ·subst hab;rw[A7 I n _ _ _ hd h1 h2];exact ό _
  ·exact Ϭ hab (Ke CK wU CJ Ay dB (xT CK wU CJ Ay λ_ _ _ _ _ _ _ q=>hi (by unfold fI at hd;lia) q) p1 p2)
 ·exact SeqAt.EqAt.tuple_list ‹_› ‹_› dB
 ·exact SeqAt.EqAt.list_none ‹_› dB
 ·exact SeqAt.EqAt.list_bool _ ‹_› dB
 ·exact SeqAt.EqAt.list_int _ _ ‹_› dB
 ·exact SeqAt.EqAt.list_str _ _ ‹_› dB
 ·exact SeqAt.EqAt.list_tuple ‹_› ‹_› dB
 ·rename_i ds a1 N8 i1 AJ CJ CK p1 es a2 N9 i2 pG Ay wU p2;by_cases hab:a1=a2
  ·subst hab;rw[A7 I n _ _ _ hd h1 h2];exact ό _
  ·exact Ϭ hab (Kh CK wU CJ Ay dB (xT CK wU CJ Ay λ_ _ _ _ _ _ _ q=>hi (by unfold fI at hd;lia) q) p1 p2)
theorem To (I:aO X pins Y H s)(n:Nat)(d1 d2:D)(x y:V)(u v:Ì)(A:Ð)(hd:fI d1<=n)(hu:A.units+n<Ò)(h1:iO X.K H d1 x)(h2:iO X.K H d2 y)(r1:aX x u)(r2:aX y v):SeqAt.RcAt A s u v (lu d1 d2):=by
 have dB:A.units<Ò:=by lia
 have hi:∀{ds:List D} {j:Nat} {d e:D} {x y:V} {u v:Ì},j3 ds+1<=n->ds[j]? = J d->iO X.K H d x->iO X.K H e y->aX x u->aX y v->Ĭ A.in1 s u v _:=λ{ds j d e x y u v} hn q a b c d'=>Dl I (n-1) _ _ _ _ _ _ _ (by have:=lx q;lia) (by show A.units+1+(n-1)<Ò;lia) a b c d';cases Vx I h1 r1<;>cases Vx I h2 r2
 ·exact SeqAt.RcAt.none_none
 ·exact SeqAt.RcAt.none_bool _
 ·exact SeqAt.RcAt.none_int _ _
 ·exact SeqAt.RcAt.none_str _ _
 ·exact SeqAt.RcAt.none_tuple ‹_› dB
 ·exact SeqAt.RcAt.none_list ‹_› dB
 ·exact SeqAt.RcAt.bool_none _
 ·exact SeqAt.RcAt.bool_bool _ _
 ·exact SeqAt.RcAt.bool_int _ _ _
 ·exact SeqAt.RcAt.bool_str _ _ _
 ·exact SeqAt.RcAt.bool_tuple _ ‹_› dB
 ·exact SeqAt.RcAt.bool_list _ ‹_› dB
 ·exact SeqAt.RcAt.int_none _ _
 ·exact SeqAt.RcAt.int_bool _ _ _
 ·exact SeqAt.RcAt.int_int _ _ _ _
 ·exact SeqAt.RcAt.int_str _ _ _ _
 ·exact SeqAt.RcAt.int_tuple _ _ ‹_› dB
 ·exact SeqAt.RcAt.int_list _ _ ‹_› dB
 ·exact SeqAt.RcAt.str_none _ _
 ·exact SeqAt.RcAt.str_bool _ _ _
 ·exact SeqAt.RcAt.str_int _ _ _ _
 ·exact SeqAt.RcAt.str_str _ _ _ _
 ·exact SeqAt.RcAt.str_tuple _ _ ‹_› dB
 ·exact SeqAt.RcAt.str_list _ _ ‹_› dB
 ·exact SeqAt.RcAt.tuple_none ‹_› dB
 ·exact SeqAt.RcAt.tuple_bool _ ‹_› dB
 ·exact SeqAt.RcAt.tuple_int _ _ ‹_› dB
 ·exact SeqAt.RcAt.tuple_str _ _ ‹_› dB
 ·rename_i ds a1 N8 i1 AJ CJ CK p1 es a2 N9 i2 pG Ay wU p2;exact Ke CK wU CJ Ay dB (xT CK wU CJ Ay λ_ _ _ _ _ _ _ q=>hi (by unfold fI at hd;lia) q) p1 p2
 ·exact SeqAt.RcAt.tuple_list ‹_› ‹_› dB
 ·exact SeqAt.RcAt.list_none ‹_› dB
 ·exact SeqAt.RcAt.list_bool _ ‹_› dB
 ·exact SeqAt.RcAt.list_int _ _ ‹_› dB
 ·exact SeqAt.RcAt.list_str _ _ ‹_› dB
 ·exact SeqAt.RcAt.list_tuple ‹_› ‹_› dB
 ·rename_i ds a1 N8 i1 AJ CJ CK p1 es a2 N9 i2 pG Ay wU p2;exact Kh CK wU CJ Ay dB (xT CK wU CJ Ay λ_ _ _ _ _ _ _ q=>hi (by unfold fI at hd;lia) q) p1 p2
theorem Kj (I:aO X pins Y H s)(n:Nat)(d1 d2:D)(x y:V)(u v:Ì)(A:Ð)(hd:fI d1<=n)(hu:A.units+n<Ò)(h1:iO X.K H d1 x)(h2:iO X.K H d2 y)(r1:aX x u)(r2:aX y v):ϩ A s u v (!lu d1 d2):=by
 have dB:A.units<Ò:=by lia
 have hi:∀{ds:List D} {j:Nat} {d e:D} {x y:V} {u v:Ì},j3 ds+1<=n->ds[j]? = J d->iO X.K H d x->iO X.K H e y->aX x u->aX y v->Ĭ _ s u v _:=λ{ds j d e x y u v} hn q a b c d'=>Dl I (n-1) _ _ _ _ _ _ A.in1 (by have:=lx q;lia) (by show A.units+1+(n-1)<Ò;lia) a b c d';cases Vx I h1 r1<;>cases Vx I h2 r2
 ·exact SeqAt.RcNeAt.none_none
 ·exact SeqAt.RcNeAt.none_bool _
 ·exact SeqAt.RcNeAt.none_int _ _
 ·exact SeqAt.RcNeAt.none_str _ _
 ·exact SeqAt.RcNeAt.none_tuple ‹_› dB
 ·exact SeqAt.RcNeAt.none_list ‹_› dB
 ·exact SeqAt.RcNeAt.bool_none _
 ·exact SeqAt.RcNeAt.bool_bool _ _
 ·exact SeqAt.RcNeAt.bool_int _ _ _
 ·exact SeqAt.RcNeAt.bool_str _ _ _
 ·exact SeqAt.RcNeAt.bool_tuple _ ‹_› dB
 ·exact SeqAt.RcNeAt.bool_list _ ‹_› dB
 ·exact SeqAt.RcNeAt.int_none _ _
 ·exact SeqAt.RcNeAt.int_bool _ _ _
 ·exact SeqAt.RcNeAt.int_int _ _ _ _
 ·exact SeqAt.RcNeAt.int_str _ _ _ _
 ·exact SeqAt.RcNeAt.int_tuple _ _ ‹_› dB
 ·exact SeqAt.RcNeAt.int_list _ _ ‹_› dB
 ·exact SeqAt.RcNeAt.str_none _ _
 ·exact SeqAt.RcNeAt.str_bool _ _ _
 ·exact SeqAt.RcNeAt.str_int _ _ _ _
 ·exact SeqAt.RcNeAt.str_str _ _ _ _
 ·exact SeqAt.RcNeAt.str_tuple _ _ ‹_› dB
 ·exact SeqAt.RcNeAt.str_list _ _ ‹_› dB
 ·exact SeqAt.RcNeAt.tuple_none ‹_› dB
 ·exact SeqAt.RcNeAt.tuple_bool _ ‹_› dB
 ·exact SeqAt.RcNeAt.tuple_int _ _ ‹_› dB
 ·exact SeqAt.RcNeAt.tuple_str _ _ ‹_› dB
 ·rename_i ds a1 N8 i1 AJ CJ CK p1 es a2 N9 i2 pG Ay wU p2;exact Kg CK wU CJ Ay dB (xT CK wU CJ Ay λ_ _ _ _ _ _ _ q=>hi (by unfold fI at hd;lia) q) p1 p2
 ·exact SeqAt.RcNeAt.tuple_list ‹_› ‹_› dB
 ·exact SeqAt.RcNeAt.list_none ‹_› dB
 ·exact SeqAt.RcNeAt.list_bool _ ‹_› dB
 ·exact SeqAt.RcNeAt.list_int _ _ ‹_› dB
 ·exact SeqAt.RcNeAt.list_str _ _ ‹_› dB
 ·exact SeqAt.RcNeAt.list_tuple ‹_› ‹_› dB
 ·rename_i ds a1 N8 i1 AJ CJ CK p1 es a2 N9 i2 pG Ay wU p2;exact Ki CK wU CJ Ay dB (xT CK wU CJ Ay λ_ _ _ _ _ _ _ q=>hi (by unfold fI at hd;lia) q) p1 p2
def Tp (K:È)(f:Bool->Bool):R2:=λx y H Q=>∃d1 d2,iO K H d1 x/\iO K H d2 y/\fI d1<=30/\Q (.bl (f (lu d1 d2))) H
theorem Dm (hu:X.A.units+64<Ò):kh X (ă .Eq) (Tp X.K id):=by
 intro pins s Y H x y v u Q I rx ry h;obtain⟨d1,d2,h1,h2,hd,q⟩:=h;exact To I 30 d1 d2 x y v u X.A hd (by lia) h1 h2 rx ry _ X.w X.xe _ ⟨.bl _,H,I,rfl,q⟩
theorem Dn (hu:X.A.units+64<Ò):kh X (ă .NotEq) (Tp X.K not):=by
 intro pins s Y H x y v u Q I rx ry h;obtain⟨d1,d2,h1,h2,hd,q⟩:=h;exact Kj I 30 d1 d2 x y v u X.A hd (by lia) h1 h2 rx ry _ X.w X.xe _ ⟨.bl _,H,I,rfl,q⟩
end L2
namespace L2
noncomputable def mj (n m:String):Bool:=(n==m)||(n=="bool"&&m=="int")
inductive OS (K:È)(H:Hp):V->String->Prop where
 |non:OS K H .non "NoneType"
 |bl (x:Bool):OS K H (.bl x) "bool"
 |int (i:Int):OS K H (.int i) "int"
 |str (x:Str):OS K H (.str x) "str"
 |lst {a:I} {xs:List V} (e:H a=J (.lst xs)):OS K H (.ref a) "list"
 |frz {a:I} {o:Obj} {xs:List V} (e:H a=J (.frz o (.lst xs))):OS K H (.ref a) "list"
 |tup {a:I} {xs:List V} (e:H a=J (.tup xs)):OS K H (.ref a) "tuple"
 |dK {a:I} {aV:List (Key×V)} (e:H a=J (.dK aV)):OS K H (.ref a) "dict"
 |dT {a:I} {aV:List (List Key×V)} (e:H a=J (.dT aV)):OS K H (.ref a) "dict"
theorem A8:eS X (.type "range") (λxs H Q=>∃j,xs=[.int j]/\∀p,H p=L->Q (.ref p) (bc H p (.rng 0 j))):=by
 intro pins s Y H xs us Q I r h;obtain⟨j,rfl,q⟩:=h;obtain⟨u,rfl,rx⟩:=i7 r;obtain⟨t,rfl⟩:=rx;refine call_range_1 ⟨.ref _,bc H _ _,I.laid (λb u e=>Ó _ e) (Ñ _) ?_,rfl,q _ (I.hok.fresh (Ñ _))⟩;exact⟨_,_,_,Ü _ rfl⟩
theorem Dq {a:Int}{bX:Array d}(h:ItemsOf (λi v=>∃t,v=Value.int (a+i*1) t) bX n):aZ ((ā n).map λi=>V.int (a+(i:Nat))) bX.toList:=by
 obtain⟨hs,hi⟩:=h;have gen:∀(l:List d) (k:Nat),(∀(i:Nat) v,l[i]? = J v->∃t,v=Value.int (a+((k+i:Nat):Int)*1) t)->aZ ((List.range' k l.length).map λi=>V.int (a+(i:Nat))) l:=by
  intro l
  induction l with
  |nil=>intro k _;exact .nil
  |cons v r ih=>
   intro k hk;refine .cons ?_ (ih (k+1) λi v e=>?_)
   ·obtain⟨t,e⟩:=hk 0 v rfl;exact⟨t,by rw[e];simp⟩
   ·obtain⟨t,e'⟩:=hk (i+1) v (by simpa using e);grind
 have q:=gen bX.toList 0 (λi v e=>by
  obtain⟨t,e'⟩:=hi i v (by simpa using e);exact⟨t,by rw[e',ż]⟩)
 grind[Ğ,List.range_eq_range']
theorem wY (hc:X.calm=Z):eS X (.type "list") (λxs H Q=>∃p lo hi,xs=[.ref p]/\H p=J (.rng lo hi)/\(-(2 ^ 62)<=lo/\lo<2 ^ 62/\ -(2 ^ 62)<=hi/\hi<2 ^ 62)/\(hi-lo).toNat<=2 ^ 20/\
  ∀l,H l=L->Q (.ref l) (bc H l (.lst ((ā (hi-lo).toNat).map λi=>V.int (lo+(i:Nat)))))):=by
 intro pins s Y H xs us Q I r h;obtain⟨p,lo,hi,rfl,hp,⟨h1,h2,h3,h4⟩,hz,q⟩:=h;obtain⟨u,rfl,rx⟩:=i7 r;cases rx;obtain⟨t,u,v,e⟩:=I.hok p _ hp;refine call_list_range (n:=(hi-lo).toNat) (I.ok.hd hc) (e) (small_one h1 h2 h3 h4) (by rw[rangeSize_one];split<;>lia) (by lia) λh' tk aa6 c' hk SH pj=>?_;have hl:((ā (hi-lo).toNat).map λi=>V.int (lo+(i:Nat))).length<=Å:=by
  rw[Ê,Ş,Ĕ];lia
 refine⟨.ref _,_,I.laid hk (Ñ _) (show c8 X.prog X.w _ _ _ (.lst _) from ⟨hl,aa6.toList,c',Dq pj,by simpa using SH⟩),rfl,q _ (I.hok.fresh (Ñ _))⟩
def Kk (i j:Int):Prop:=0<j/\j<18446744073709551616
theorem Dr (h:n<18446744073709551616):n.log2<9000:=by
 by_cases h0:n=0
 ·subst h0;decide
 ·have:=(Nat.log2_lt h0 (k:=64)).mpr (by lia);lia
theorem i9:kh X (ě .FloorDiv) (rI Kk λi j=>.int (i / j)):=YW λi j _ _ _ _ _ hc q=>by
 refine floordiv_int (by have:=hc.1;lia) ?_ (.inl (PyProof.noPylong_of_log2 (Dr (by have:=hc.1;have:=hc.2;lia))));rw[Int.fdiv_eq_ediv_of_nonneg _ (by have:=hc.1;lia)];exact q
def Ft:Ĉ "list"=J (.type "list"):=by rfl
def eX:Ĉ "tuple"=J (.type "tuple"):=by rfl
def OT:Ĉ "dict"=J (.type "dict"):=by rfl
def Kl:Ĉ "range"=J (.type "range"):=by rfl
def dS:Ĉ "len"=J (.builtin "len"):=by rfl
def Km:Ĉ "max"=J (.builtin "max"):=by rfl
def Tq:Ĉ "min"=J (.builtin "min"):=by rfl
def Kn:Ĉ "abs"=J (.builtin "abs"):=by rfl
def pS:Ĉ "sorted"=J (.builtin "sorted"):=by rfl
def Tt:Ĉ "all"=J (.builtin "all"):=by rfl
def Ko:Ĉ "sum"=J (.builtin "sum"):=by rfl
end L2
namespace HT
open L2
end HT
namespace L2
def Dt {p:I}(h:H p=L)(o:HO):aN H (bc H p o):=λb u q=>by rw[aG (bM q h)];exact q
end L2
namespace HT
open L2
end HT
namespace L2
def A9:V->List V->Hp->VK->Prop:=λx vs H Q=>∃l b xs zs,x=.ref l/\vs=[.ref b]/\H l=J (.lst xs)/\H b=J (.tup zs)/\xs.length+zs.length<=Å/\Q .non (bc H l (.lst (xs++zs)))
theorem Du:YY X "list.extend" A9:=by
 intro pins s Y H x vs v us Q I rx rv h;obtain⟨l,b,xs,zs,rfl,rfl,hH,hB,hz,q⟩:=h;cases rx;obtain⟨u,rfl,ru⟩:=rv.one;cases ru;obtain⟨z,aH,n,r,hl,e⟩:=I.lstM hH;obtain⟨z2,its2,r2,_,n2,e2⟩:=I.hok b _ hB;have SI:=r2.length;have hsz:aH.toArray.size+its2.toArray.size<=Å:=by grind
 have N_:¬(!aH.toArray.isEmpty&&ϫ (aH.toArray.size+its2.toArray.size))=Z:=by
  rw[tZ hsz,Bool.and_false];exact í
 refine ŗ F.slot_list_extend ⟨_,e,rfl⟩ F.entry_list_extend (F.args_list_extend_2 _ _)
  (AutoSeq1.list_extend_list_tuple_0 l _ n b _ n2 N_ (by lia) (by lia)) ⟨e,e2,?_⟩
 refine⟨.non,_,I.lset hH e (by simp) (r.append r2) ?_,rfl,q⟩;rw[ã];lia
theorem y8:eS X (.builtin "sorted") (λxs H Q=>∃(p:Ý) (ns:List Int),xs=[.ref p]/\(fG X.K H p (ns.map V.int)\/gR X.K H p (ns.map V.int))/\ns.length<64/\
  ∀(l:Ý) (md:List Int),H l=L->md.Perm ns->md.Pairwise (·<=·)->Q (.ref l) (bc H l (.lst (md.map V.int)))):=by
 intro pins s Y H xs us Q I r h;obtain⟨p,ns,rfl,hq,h64,q⟩:=h;obtain⟨u,rfl,rx⟩:=i7 r;cases rx;have Vh:∃(T:String) (o:Obj) (aH:List Ì) (n:Nat),(T="list"\/T="tuple")/\s.heap.get? p=J o/\o.cls=.type T/\o.data=.seq aH.toArray n/\ü aH ns:=by
  rcases hq with hq|hq
  ·obtain⟨aH,rv,pl,hz⟩:=I.list hq;obtain⟨o,e,c,n,d⟩:=pl.isList;exact⟨"list",o,aH,n,.inl rfl,e,c,d,fH rv⟩
  ·obtain⟨aH,rv,pl,hz⟩:=I.tuple hq;obtain⟨o,e,c,n,d⟩:=pl;exact⟨"tuple",o,aH,n,.inr rfl,e,c,d,fH rv⟩
 obtain⟨T,o,aH,n,hT,ho,hc,hd,hI⟩:=Vh;have iw:=hI.length;refine afr kind_sorted plain_sorted entry_sorted (args_sorted1 _) ?_;refine t (Â ?_);refine t (Ŵ p hT ho hc hd (λh1 k1=>?_) (by rw[å,Ĕ];lia));refine t (wpAny_newList ?_);have Vi:(h1.push _).get? _=J (seqObj "list" aH.toArray 0):=Ü _ rfl;have Vj:=by simpa using Vi
 refine t (õ (û slot_list_sort ⟨_,Vj,rfl⟩ entry_list_sort (list_sort_tree Vj hI (by lia) λout md a1 a2 a3=>⟨_,rfl,?_⟩) (args_list_sort _)));refine Â ⟨_,rfl,?_⟩;obtain⟨e,he⟩:=sortedHeap_at Vj;have keep:∀b o,h1.get? b=J o->(sortedHeap (h1.push {cls:=.type "list",data:=.seq (aH.toArray.toList).toArray}) _ aH out).get? b=J o:=λb o e=>by
  have hb:=Ô e;rw[sortedHeap_old (Þ hb) (by rw[Ī];exact ϛ hb)];exact Ó _ e
 have I1:=I.kept (t':=s.toks) k1;have SI:(md.map V.int).length<=Å:=by rw[Ê,a2.length_eq,Ĕ];lia
 exact⟨.ref _,_,I1.laid keep (Ñ _) (show c8 X.prog X.w _ _ _ (.lst _) from ⟨SI,out.toList,e,pP a1,by simpa using he⟩),rfl,q _ md (I1.hok.fresh (Ñ _)) a2 a3⟩
theorem HK {bs:List Bool}{us:List d}(r:aZ (bs.map V.bl) us){v:d}(h:us[i]? = J v):v=.bool (bs.getD i Z):=by
 have hl:=r.length;rw[Ê] at hl;obtain⟨hi,_⟩:=é.mp h;have e:(bs.map V.bl)[i]? = J (V.bl (bs.getD i Z)):=by
  simp[á (show i<bs.length by lia)]
 obtain⟨u,hu,ru⟩:=r.get e;rw[h] at hu;cases hu;exact ru
theorem HL (bs:List Bool):((ā bs.length).all λi=>bs.getD i Z)=bs.all id:=by
 induction bs with
 |nil=>rfl
 |cons b bs ih=>
  rw[Ù,List.range_succ_eq_map,ĺ,List.all_map];congr 1
theorem HM (hc:X.calm=Z):eS X (.builtin "all") (λxs H Q=>∃(p:Ý) (bs:List Bool),xs=[.ref p]/\fG X.K H p (bs.map V.bl)/\Q (.bl (bs.all id)) H):=by
 intro pins s Y H xs us Q I r h;obtain⟨p,bs,rfl,hq,q⟩:=h;obtain⟨u,rfl,rx⟩:=i7 r;cases rx;obtain⟨aH,rv,pl,hz⟩:=I.list hq;have hl:=pl.isList;have pq:p<s.heap.objs.size:=by obtain⟨_,e,_⟩:=hl;exact Ô e
 refine call_all_walk (Κ hl ?_);refine⟨s.heap.objs.size,_,_,_,_,_,λi=>bs.getD i Z,rfl,Walks.list (A:=X.A.in1) (I.ok.hd hc) _ p (Þ pq) _,⟨⟨_,Ü _ rfl,rfl,rfl⟩,hl.push _⟩,?_,λh' tk hk=>?_⟩
 ·intro i v s' Q' E' hP hQ';grind[HK,ų]
 ·have e:(ā aH.toArray.size).all (λi=>bs.getD i Z)=bs.all id:=by
   rw[å,<-rv.length,Ê];exact HL bs
  rw[e];refine⟨.bl _,H,I.kept λb o e=>hk b o (λhm=>?_) (Ó _ e),rfl,q⟩;rcases Ø.mp hm with e1|hm
  ·exact absurd (e1▸Ô e) (ĳ _)
  ·cases hm
theorem xV {prog:ó}{w:â}{A:Ð}{E:d->À->Prop}{it t:I}{items:Array d}(wV:t≠it):∀(n i:Nat) (s:À) (Q:List d->À->Prop),s.heap.IsListIter it t i->s.heap.IsList t items->i+n<=items.size->
  (∀h',h'.IsListIter it t (i+n)->Ļ it s.heap h'->Q ((items.toList.drop i).take n) {s with heap:=h'})->Á (Ä prog w) A (draw (.ref it) n) Q E s
 |0,i,s,Q,hit,_,_,hQ=>by
  exact Â (by simp_all[Heap.SameBut.refl])
 |n+1,i,s,Q,hit,ht,hle,hQ=>by
  have pq:i<items.size:=by lia
  refine Ã (wpAny_pyNext_list_item hit ht (x:=items[i]) (by simp[pq]) λh₁ Vk YB=>?_);refine Ã (õ (xV wV n (i+1) _ _ Vk (ht.extBut YB.extBut wV) (by lia) λh₂ aa7 hs₂=>Â ?_));have hd:items.toList.drop i=items[i]::items.toList.drop (i+1):=by simp[Ķ,pq]
  have:=hQ h₂ (by lia) (YB.trans hs₂);rw[hd] at this;exact this
theorem pT {A:Ð}{t:I}{items:Array d}{Q:List d->À->Prop}(hh:A.handled=L)(ht:s.heap.IsList t items)(hQ:∀h',Heap.ExtBut s.heap.objs.size s.heap h'->Q items.toList {s with heap:=h'}):Á (Ä prog w) A (unpackItems (.ref t) items.size L) Q E s:=by
 have pq:t≠s.heap.objs.size:=by obtain⟨o,ho,_⟩:=ht;exact Þ (Ô ho)
 refine Ã ?_
 ·refine Ã (Ŕ ht.typeIs slot_list_iter.lookup ?_);refine Â ?_;refine Ã (õ (Κ ht ?_));refine Ã (õ (xV pq _ 0 _ _ ⟨_,Ü _ rfl,rfl,rfl⟩ (ht.push _) (by lia) λh₁ Vk YB=>?_));have N5:List.take items.size (List.drop 0 items.toList)=items.toList:=by
   simp[List.take_of_length_le]
  rw[N5];rw[hZ (by simp)];have ht₁ :=(ht.push _).extBut YB.extBut pq;refine Ã (õ (wpAny_pyNext_list_end hh Vk ht₁ (by simp) λh₂ he₂=>?_));refine Â (hQ h₂ λb o hb e=>he₂ b o hb (YB.extBut b o hb (Ó _ e)))
def ZK (K:È)(n:Nat)(t:JP):TG:=λv Y H Q=>∃a xs,v=.ref a/\fG K H a xs/\xs.length=n/\t xs Y H Q
theorem Tu {pos:Pos}{es:List Æ}{k}{t:JP}(hc:X.calm=Z)(h:Ov X es t)(hn:(Č es X.env).length=n:=by rfl)(N1:(Č es X.env).findIdx? (·.1)=L:=by rfl):PG X (.Tuple es k pos) (ZK X.K n t):=by
 intro pins s Y H v u Q I r hw;obtain⟨a,xs,e1,hq,hl,hw⟩:=hw;subst e1;cases r;obtain⟨aH,rv,pl,hz⟩:=I.list hq;refine Ã (wpAny_standAt ?_);unfold unpack;have en:(Č es X.env).length=aH.toArray.size:=by rw[hn,å,<-rv.length,hl]
 rw[en,N1];refine Ã (õ (pT (I.ok.hd hc) pl.isList λh' hx=>?_));have I1:=I.kept (t':=s.toks) λb o e=>hx b o (Þ (Ô e)) e;exact h pins _ Y H xs _ Q I1 (by lia) hw
def Kp:R2:=λx y H Q=>∃a b xs ys,x=.ref a/\y=.ref b/\H a=J (.tup xs)/\H b=J (.tup ys)/\xs.length+ys.length<=Å/\∀r H',aN H H'->H' r=J (.tup (xs++ys))->Q (.ref r) H'
theorem Kq:kh X (ě .Add) Kp:=by
 intro pins s Y H x y v u Q I rx ry h;obtain⟨a,b,xs,ys,rfl,rfl,CN,tW,hz,q⟩:=h;have ha:gR X.K H a xs:=gR.of CN;have hb:gR X.K H b ys:=gR.of tW;by_cases hx:xs=[]
 ·subst hx;cases rx;cases ry;obtain⟨aH,r1,p1,_⟩:=I.tuple ha;obtain⟨its2,r2,p2,_⟩:=I.tuple hb;have e1:=(aZ.nil_iff r1).mpr rfl;subst e1;obtain⟨⟨cls,dd,data,sl⟩,ho,hc,n,hd⟩:=id p1;obtain⟨⟨cls2,Hh,data2,JL⟩,ho2,hc2,n2,C0⟩:=id p2;subst hc hd hc2 C0;exact concat_meets ⟨_,ho,rfl⟩ ⟨_,ho2,rfl⟩ noFill_tuple_add seq_tuple_add ϥ Ϣ (ϟ _ _)
   (tuple_addW0 a b _ _ n n2 dd Hh sl JL (by simp)) ⟨ho,ho2,⟨.ref b,H,I,rfl,q b H (aN.refl _) (by simpa using tW)⟩⟩
 ·refine OI pins s Y H _ _ v u Q I rx ry ⟨a,b,xs,ys,rfl,rfl,ha,hb,hx,hz,λe=>?_,λ_ p hp=>q p _ (Dt hp _) aI⟩;simp_all[aN.refl]
end L2
namespace L2
structure Fn (P:ó)(w:â)(K:È)(mg:Str->Option d)(base:É)(x:Str)(k:Nat)(ps:List Str)(sp:Sp):Prop where
 ex:∃(f:I) (fd:ħ),mg x=J (.ref f)/\Ń K (.ref f)=Z/\j0 K fd ps []/\gE P w K mg base pD k f fd ps sp
structure Df (K:È)(mg:Str->Option d)(x:Str)(st:Ë):Prop where
 ex:∃(f:I) (fd:ħ),mg x=J (.ref f)/\HF K x x st f fd
section
variable {base:É}{k:Nat}
theorem Df.fn (d:Df K mg x st)(S:ay N ps (ak st))(hb:∀(kV ke pm:Ì) (an:Option I) (cS ct:Ì) (us:List Ì),us.length=ps.length->ĵ (č x x (cT st) (bf st) (ak st) .none kV ke pm an cS ct) ⟨us,[]⟩=pure (ps.zip us))(len:∀vs H Q E,sp vs H Q E->vs.length=ps.length)(fA:∀(f:I) (cS:Ì) (A:Ð) (outer:List Env) (s:À) (H:Hp) (vs:List V) (Q:VK) (E:XK),cX k (A.deeper (ċ x (ak st) s.heap.objs.size f cS))->sp vs H Q E->
   ∃t,tX (j8 pD P w K mg base N x (ak st) f cS A outer s H E).nox (bf st) t/\t {nx:=λ_ H'=>Q .non H',rt:=Q} (f6 N vs) H):Fn P w K mg base x (k+1) ps sp:=by
 obtain⟨f,fd,m,F⟩:=d.ex;exact⟨f,fd,m,F.kp,F.binds hb,F.ok S len (fA f)⟩
end
section
variable {k:Nat}{p pos:Pos}{e:Æ}{es:List Æ}{t:TA}
theorem ug (F:Fn X.prog X.w X.K X.mg X.base x k ps sp)(hr:cX k X.A)(ha:PA X (e::es) t)(hg:Gl X x:=by rfl)(qL:(x==("__debug__":Str))=M:=by decide)
  (he:Î (e::es) X.env=(M,Í e X.env)::Î es X.env:=by rfl) (nv:(ä pos (Î es X.env)).any (·.1)=M:=by rfl) :
  PE X (.Call (.Name x p) (e::es) [] pos) (JY sp [] E0 t):=by
 obtain⟨f,fd,hm,hk,hb,G⟩:=F.ex;exact OG G hr hg hm hk hb .nil J9 ha qL he nv
end
theorem aN.seqT (e:aN H H')(h:gR K H a xs):gR K H' a xs:=by
 rcases h with (h|⟨o,h⟩)|h
 ·exact .inl (.inl (e _ _ h))
 ·exact .inl (.inr ⟨o,e _ _ h⟩)
 ·exact .inr h
mutual
theorem aN.rep {K:È}{H H':Hp}(e:aN H H'):∀{d:D} {v:V},iO K H d v->iO K H' d v
 | .non,v,h=>by grind[iO]
 | .bl b,v,h=>by grind[iO]
 | .int b,v,h=>by grind[iO]
 | .str b,v,h=>by grind[iO]
 | .tup ds,v,h=>by
  unfold iO at h |-;obtain⟨a,xs,r,q,z⟩:=h;exact⟨a,xs,r,e.seqT q,aN.reps e z⟩
 | .lst ds,v,h=>by
  unfold iO at h |-;obtain⟨a,xs,r,q,z⟩:=h;exact⟨a,xs,r,e.seq q,aN.reps e z⟩
theorem aN.reps {K:È}{H H':Hp}(e:aN H H'):∀{ds:List D} {vs:List V},f7 K H ds vs->f7 K H' ds vs
 | [],vs,h=>by grind[f7]
 |d::ds,vs,h=>by
  unfold f7 at h |-;obtain⟨x,r,q,p,z⟩:=h;exact⟨x,r,q,aN.rep e p,aN.reps e z⟩
end
end L2
namespace L2
inductive U where
 |non|bl (b:Bool)|int (i:Int)|str (x:Str)|tup (xs:List U)|lst (xs:List U)|dct (ks vs:List U)|scr (xs:List U)|obj (fs:List Str) (xs:List U)
instance:Inhabited U:=⟨.non⟩
inductive R (α:Type) where
 |ok (a:α)|exc (c:String) (u:U)|stk
noncomputable def R.bind {α β:Type}:R α->(α->R β)->R β
 | .ok a,f=>f a
 | .exc c u,_=>.exc c u
 | .stk,_=>.stk
noncomputable abbrev Ev:=List (Option U)
inductive SR where
 |nx (B:Ev)|rt (u:U) (B:Ev)|bk (B:Ev)|ct (B:Ev)|exc (c:String) (u:U)|stk
end L2
variable {us ks:List L2.U}{u p u':L2.U}{es:List (List L2.U×I×L2.V)}{g gk:L2.Ev->L2.R (L2.U×L2.Ev)}{ws:List (List Int×L2.U)}{B:L2.Ev}{sg:L2.U->L2.Ev->L2.R L2.Ev}{ga:L2.Ev->L2.R (List L2.U×L2.Ev)}{F:L2.U->L2.U}{o5:Option L2.U}
namespace L2
open Sem (wp)
mutual
noncomputable def qS:U->U->Bool
 | .non,.non=>Z
 | .bl a,.bl b=>decide (a=b)
 | .int a,.int b=>decide (a=b)
 | .str a,.str b=>decide (a=b)
 | .tup a,.tup b=>nK a b
 | .lst a,.lst b=>nK a b
 | .dct a b,.dct c d=>nK a c&&nK b d
 | .scr a,.scr b=>nK a b
 | .obj a b,.obj c d=>decide (a=c)&&nK b d
 |_,_=>M
noncomputable def nK:List U->List U->Bool
 | [],[]=>Z
 |x::xs,y::ys=>qS x y&&nK xs ys
 |_,_=>M
end
mutual
theorem mG:∀{a b:U},qS a b=Z->a=b
 | .non,b,h=>by cases b<;>first|rfl|(unfold qS at h;cases h)
 | .bl a,b,h=>by cases b<;>unfold qS at h<;>first|(cases h;done)|lia
 | .int a,b,h=>by cases b<;>unfold qS at h<;>first|(cases h;done)|lia
 | .str a,b,h=>by cases b<;>unfold qS at h<;>first|(cases h;done)|lia
 | .tup a,b,h=>by cases b<;>unfold qS at h<;>first|(cases h;done)|rw[jx h]
 | .lst a,b,h=>by cases b<;>unfold qS at h<;>first|(cases h;done)|rw[jx h]
 | .scr a,b,h=>by cases b<;>unfold qS at h<;>first|(cases h;done)|rw[jx h]
 | .dct a c,b,h=>by
  cases b<;>unfold qS at h<;>first|(cases h;done)|skip
  rw[ß] at h;rw[jx h.1,jx h.2]
 | .obj a c,b,h=>by
  cases b<;>unfold qS at h<;>first|(cases h;done)|skip
  rw[ß] at h;rw[of_decide_eq_true h.1,jx h.2]
theorem jx:∀{a b:List U},nK a b=Z->a=b
 | [],[],_=>rfl
 | [],_::_,h=>by unfold nK at h;cases h
 |_::_,[],h=>by unfold nK at h;cases h
 |x::xs,y::ys,h=>by
  unfold nK at h;rw[ß] at h;rw[mG h.1,jx h.2]
end
mutual
theorem A_:∀(a:U),qS a a=Z
 | .non=>rfl
 | .bl a=>by unfold qS;exact hJ rfl
 | .int a=>by unfold qS;exact hJ rfl
 | .str a=>by unfold qS;exact hJ rfl
 | .tup a=>by unfold qS;exact fJ a
 | .lst a=>by unfold qS;exact fJ a
 | .scr a=>by unfold qS;exact fJ a
 | .dct a b=>by unfold qS;rw[fJ a,fJ b];rfl
 | .obj a b=>by unfold qS;rw[fJ b,hJ rfl];rfl
theorem fJ:∀(a:List U),nK a a=Z
 | []=>by rfl
 |x::xs=>by unfold nK;rw[A_ x,fJ xs];rfl
end
instance acr:DecidableEq U:=λa b=>if h:qS a b=Z then .isTrue (mG h) else .isFalse λe=>h (by rw[e];exact A_ b)
mutual
def KIs (h:É):U->d->Prop
 | .int i,v=>∃t,v=.int i t
 | .tup us,v=>∃a items,v=.ref a/\h.IsTuple a items/\KIss h us items.toList
 |_,_=>False
def KIss (h:É):List U->List d->Prop
 | [],vs=>vs=[]
 |u::us,vs=>∃v r,vs=v::r/\KIs h u v/\KIss h us r
end
mutual
noncomputable def hK:U->Int
 | .int i=>hashInt i
 | .tup us=>reduceHash (Ϫ (Kr us))
 |_=>0
noncomputable def Kr:List U->List Int
 | []=>[]
 |u::us=>hK u::Kr us
end
mutual
noncomputable def Vy:U->Nat
 | .tup us=>sh us+1
 |_=>1
noncomputable def sh:List U->Nat
 | []=>0
 |u::us=>Vy u+sh us
end
mutual
noncomputable def dpK:U->Nat
 | .tup us=>dpKs us+1
 |_=>0
noncomputable def dpKs:List U->Nat
 | []=>0
 |u::us=>max (dpK u) (dpKs us)
end
theorem Dv {x y:Array Ì}(h1:h.IsTuple a x)(h2:h.IsTuple a y):x=y:=by
 obtain⟨o,e,_,n,d⟩:=h1;obtain⟨o',e',_,n',d'⟩:=h2;lia
mutual
theorem KIs.inj {h:É}:∀{x y:U} {v:d},KIs h x v->KIs h y v->x=y
 | .int i,y,v,h1,h2=>by
  unfold KIs at h1;obtain⟨t,rfl⟩:=h1;cases y<;>unfold KIs at h2<;>first|exact h2.elim|skip
  ·lia
  lia
 | .str i,y,v,h1,h2=>by unfold KIs at h1;exact h1.elim
 | .tup us,y,v,h1,h2=>by
  unfold KIs at h1;obtain⟨a,aH,rfl,q,z⟩:=h1;cases y<;>unfold KIs at h2<;>first|exact h2.elim|skip
  ·lia
  ·obtain⟨a',sV,e,q',z'⟩:=h2;cases e;have:=Dv q q';subst this;rw[KIss.inj z z']
 | .non,y,v,h1,h2=>by unfold KIs at h1;exact h1.elim
 | .bl _,y,v,h1,h2=>by unfold KIs at h1;exact h1.elim
 | .lst _,y,v,h1,h2=>by unfold KIs at h1;exact h1.elim
 | .dct _ _,y,v,h1,h2=>by unfold KIs at h1;exact h1.elim
 | .scr _,y,v,h1,h2=>by unfold KIs at h1;exact h1.elim
 | .obj _ _,y,v,h1,h2=>by unfold KIs at h1;exact h1.elim
theorem KIss.inj {h:É}:∀{x y:List U} {vs:List d},KIss h x vs->KIss h y vs->x=y
 | [],y,vs,h1,h2=>by
  unfold KIss at h1;subst h1;cases y with
  |nil=>rfl
  |cons=>grind[KIss]
 |u::us,y,vs,h1,h2=>by
  unfold KIss at h1;obtain⟨v,r,rfl,p,q⟩:=h1;cases y with
  |nil=>grind[KIss]
  |cons=>
   unfold KIss at h2;obtain⟨v',r',e,p',q'⟩:=h2;cases e;rw[KIs.inj p p',KIss.inj q q']
end
mutual
theorem KIs.keep {h h':É}(k:∀a aH,h.IsTuple a aH->h'.IsTuple a aH):∀{x:U} {v:d},KIs h x v->KIs h' x v
 | .int i,v,h1=>by grind[KIs]
 | .str i,v,h1=>by unfold KIs at h1;exact h1.elim
 | .tup us,v,h1=>by
  unfold KIs at h1 |-;obtain⟨a,aH,e,q,z⟩:=h1;exact⟨a,aH,e,k a aH q,KIss.keep k z⟩
 | .non,v,h1=>by unfold KIs at h1;exact h1.elim
 | .bl _,v,h1=>by unfold KIs at h1;exact h1.elim
 | .lst _,v,h1=>by unfold KIs at h1;exact h1.elim
 | .dct _ _,v,h1=>by unfold KIs at h1;exact h1.elim
 | .scr _,v,h1=>by unfold KIs at h1;exact h1.elim
 | .obj _ _,v,h1=>by unfold KIs at h1;exact h1.elim
theorem KIss.keep {h h':É}(k:∀a aH,h.IsTuple a aH->h'.IsTuple a aH):∀{x:List U} {vs:List d},KIss h x vs->KIss h' x vs
 | [],vs,h1=>by grind[KIss]
 |u::us,vs,h1=>by
  unfold KIss at h1 |-;obtain⟨v,r,e,p,q⟩:=h1;exact⟨v,r,e,KIs.keep k p,KIss.keep k q⟩
end
theorem KIss.length {h:É}:∀{us:List U} {vs:List d},KIss h us vs->us.length=vs.length
 | [],vs,h1=>by subst h1;rfl
 |u::us,vs,h1=>by
  obtain⟨v,r,rfl,p,q⟩:=h1;rw[Ù,Ù,KIss.length q]
theorem KIss.get {h:É}:∀{us:List U} {vs:List d} {i:Nat} {u:U} {v:d},KIss h us vs->us[i]? = J u->vs[i]? = J v->KIs h u v
 | [],_,_,_,_,_,e,_=>by simp at e
 |w::us,_,i,u,v,h,e1,e2=>by
  obtain⟨x,r,rfl,p,q⟩:=h;cases i with
  |zero=>grind
  |succ i=>exact KIss.get q (by simpa using e1) (by simpa using e2)
theorem nN:∀{us:List U} {i:Nat} {u:U},us[i]? = J u->dpK u<=dpKs us
 | [],_,_,e=>by simp at e
 |w::us,i,u,e=>by
  cases i with
  |zero=>simp at e;subst e;exact Nat.le_max_left _ _
  |succ i=>exact ą (nN (by simpa using e)) (Nat.le_max_right _ _)
theorem uh:∀(a b:List U),Kr (a++b)=Kr a++Kr b
 | [],b=>by rfl
 |x::a,b=>by rw[ϕ,Kr,uh a b];rfl
theorem qT:∀(a b:List U),sh (a++b)=sh a+sh b
 | [],b=>by rw[Υ];show _=0+_;lia
 |x::a,b=>by rw[ϕ,sh,sh,qT a b];lia
theorem Tv:∀(n:Nat) (u:U) (v:d) (A:Ð) (E:d->À->Prop) (s:À) (Q:Int->À->Prop),dpK u<=n->A.units+n<Ò->KIs s.heap u v->Q (hK u) {s with toks:=s.toks+Vy u} ->
  Á (Ä prog w) A (pyHash v) Q E s:=by
 intro n
 induction n with
 |zero=>
  intro u v A E s Q hd hu hk h;cases u<;>unfold KIs at hk<;>first|exact hk.elim|skip
  ·obtain⟨t,rfl⟩:=hk;exact wpAny_pyHash_int h
  grind[dpK]
 |succ n ih=>
  intro u v A E s Q hd hu hk h;cases u<;>unfold KIs at hk<;>first|exact hk.elim|skip
  ·obtain⟨t,rfl⟩:=hk;exact wpAny_pyHash_int h
  ·rename_i us;unfold dpK at hd;obtain⟨a,items,rfl,ht,hi⟩:=hk;have hT:s.TypeIs (.ref a) _:=let ⟨o,e,c,_⟩:=ht;⟨o,e,c⟩
   obtain⟨o,ho,_,nn,hdat⟩:=ht
   first|refine Ã (wpAny_cRoomFor_or (.inr (by lia)) ?_)|skip
   refine Ã (Ŕ hT F.slot_tuple_hash.lookup ?_);refine Ã (Ŕ hT F.slot_tuple_hash.lookup ?_);refine Ã (wpAny_callSpecialIfBoundUnlessNone?_slot hT F.slot_tuple_hash (û F.slot_tuple_hash hT F.entry_tuple_hash ?_ (F.args_tuple_hash_1 _)));show Á _ _ (Builtin.Tuple.tupleItemsOf _ >>= _) _ _ s;refine Ã (wpAny_tupleItemsOf ho hdat ?_);refine Ã ?_;rw[<-Array.forIn_toList];refine wpAny_forIn_list _
    (λrest (b:Array Int) s'=>∃done left,us=done++left/\KIss _ left rest/\b.toList=Kr done/\s'={s with toks:=s.toks+sh done})
    _ ?_ ?_ _ _ ⟨[],us,rfl,hi,by rfl,by rfl⟩
   ·rintro x rest b s' ⟨done,left,rfl,hl,hb,rfl⟩;cases left with
    |nil=>cases hl
    |cons k ks'=>
     obtain⟨v',r',e,h1,Vt⟩:=hl;cases e;have hdk:dpK k<=n:=by
      have:=nN (us:=done++k::ks') (i:=done.length) (u:=k) (by simp);lia
     refine Ã (ih k x _ E _ _ hdk (by lia) h1 ?_);have e2:Kr (done++[k])=Kr done++[hK k]:=by rw[uh];rfl
     have e3:sh (done++[k])=sh done+Vy k:=by grind[qT,Vy,sh]
     first
      |exact Â ⟨done++[k],ks',by simp,Vt,by simp[hb,e2],by simp[e3,θ]⟩
      |exact Ã _
   ·rintro b s' ⟨done,left,rfl,hl,hb,rfl⟩;cases left with
    |cons k ks'=>obtain⟨_,_,e,_⟩:=hl;cases e
    |nil=>
     rw[Ĝ] at h;show Á _ _ (retInt _) _ _ _;rw[hb];refine wpAny_ret_mkInt ?_;show Á _ _ (if (decide _&&decide _)=Z then _ else _) Q E _;unfold hK Vy reduceHash at h;by_cases hr:(decide (-(2:Int) ^ 63<=Ϫ (Kr done))&&decide (Ϫ (Kr done)<2 ^ 63))=Z
     ·rw[h_ hr];rw[h_ hr] at h;exact Â (by simpa [θ] using h)
     ·rw[hZ hr];rw[hZ hr] at h;exact Ã (İ (Â (by simpa [θ] using h)))
theorem eq_K:∀(n:Nat) (x y:U) (u v:d) (A:Ð),dpK x<=n->A.units+n<Ò->KIs s.heap x u->KIs s.heap y v->Ĭ A s u v (decide (x=y)):=by
 intro n
 induction n with
 |zero=>
  intro x y u v A hd hu h1 h2;have dB:A.units<Ò:=by lia
  cases x<;>(try (exact h1.elim))
  case int i=>
   obtain⟨t,rfl⟩:=h1;cases y<;>(try (exact h2.elim))
   case int j=>
    obtain⟨t',rfl⟩:=h2;have:=SeqAt.EqAt.int_int (A:=A) (s:=s) i t j t';have e:decide (U.int i=U.int j)=(i==j):=by rw[ļ];simp
    rw[e];exact this
   case tup us=>
    obtain⟨a,aH,rfl,ht,_⟩:=h2;exact SeqAt.EqAt.int_tuple i t ht dB
  grind[dpK]
 |succ n ih=>
  intro x y u v A hd hu h1 h2;have dB:A.units<Ò:=by lia
  cases x<;>(try (exact h1.elim))
  case int i=>exact ih _ y u v A (by unfold dpK;lia) (by lia) h1 h2
  case tup us=>
   unfold dpK at hd;have SJ:=h1;obtain⟨a,aH,rfl,p1,z1⟩:=h1;cases y<;>(try (exact h2.elim))
   case int j=>
    obtain⟨t',rfl⟩:=h2;exact SeqAt.EqAt.tuple_int j t' p1 dB
   case tup ws=>
    have QK:=h2;obtain⟨b,its2,rfl,p2,z2⟩:=h2;by_cases hab:a=b
    ·subst hab;rw[KIs.inj SJ QK,hJ rfl];exact ό _
    ·refine Ϭ hab ?_;have l1:aH.size=us.length:=by rw[z1.length,Ğ]
     have l2:its2.size=ws.length:=by rw[z2.length,Ğ]
     have he:∀j (g1:j<aH.size) (g2:j<its2.size),Ĭ A.in1 s _ _ (decide _):=λj g1 g2=>by
      have q1:us[j]? = J _:=á (by lia);have q2:ws[j]? = J _:=á (by lia);have y1:aH.toList[j]? = J aH[j]:=by simp
      have y2:its2.toList[j]? = J its2[j]:=by simp
      have e:decide (us[j]? = ws[j]?)=decide (us[j]=ws[j]):=by rw[q1,q2];simp
      rw[e];refine ih _ _ _ _ _ ?_ (by show A.units+1+n<Ò;lia) (z1.get q1 y1) (z2.get q2 y2);have:=nN q1;lia
     have q:=SeqAt.RcAt.tuples p1 p2 dB he;rw[l1,l2] at q;have fin:((ā (min us.length ws.length)).all (λj=>decide (us[j]? = ws[j]?))&&us.length==ws.length)=decide (U.tup us=U.tup ws):=by
      rw[ļ,ß,ì,decide_eq_true_eq];constructor
      ·rintro⟨ha,hl⟩;have hl:=by simpa using hl
       congr 1;refine Φ λj=>?_;grind
      lia
     rw[<-fin];exact q
theorem OU:∀(n:Nat) (x:U) (v:d) (A:Ð) (E:d->À->Prop) (s:À) (Q:Bool->À->Prop),dpK x<=n->KIs s.heap x v->Q Z s->Á (Ä prog w) A (eqIsQuiet n v) Q E s:=by
 intro n
 induction n with
 |zero=>
  intro x v A E s Q hd hk h;cases x<;>unfold KIs at hk<;>first|exact hk.elim|skip
  ·obtain⟨t,rfl⟩:=hk;exact Â h
  grind[dpK]
 |succ n ih=>
  intro x v A E s Q hd hk h;cases x<;>unfold KIs at hk<;>first|exact hk.elim|skip
  ·obtain⟨t,rfl⟩:=hk;exact Â h
  ·rename_i us;unfold dpK at hd;obtain⟨a,items,rfl,ht,hi⟩:=hk;have hT:s.TypeIs (.ref a) _:=let ⟨o,e,c,_⟩:=ht;⟨o,e,c⟩
   obtain⟨o,ho,_,nn,hdat⟩:=ht;unfold eqIsQuiet;refine Ã (Ŕ hT F.slot_tuple_eq.lookup ?_);refine Ã (ň hT isSubtype_tuple_tuple ?_);refine Ã (Ġ ho hdat ?_);refine Ã ?_;rw[<-Array.forIn_toList];refine wpAny_forIn_list _ (λrest r s'=>r.1=L/\s'=s/\∃done left,us=done++left/\KIss _ left rest) _ ?_ ?_ _ _ ⟨rfl,rfl,[],us,rfl,hi⟩
   ·rintro v rest r s' ⟨hr,rfl,done,left,rfl,hl⟩;cases left with
    |nil=>cases hl
    |cons k ks'=>
     obtain⟨v',r',e,h1,Vt⟩:=hl;cases e;have hdk:dpK k<=n:=by
      have:=nN (us:=done++k::ks') (i:=done.length) (u:=k) (by simp);lia
     refine Ã (ih k v A E _ _ hdk h1 ?_);exact Â ⟨rfl,rfl,done++[k],ks',by simp,Vt⟩
   ·rintro⟨r1,r2⟩ s' ⟨hr,rfl,_⟩;subst hr;exact Â h
def TK (h:É)(us:List U)(a:I):Prop:=dpKs us<=6/\∃items,h.IsTuple a items/\KIss h us items.toList
theorem TK.is (x:TK h us a):dpK (.tup us)<=7/\KIs h (.tup us) (.ref a):=by
 obtain⟨l,aH,t,z⟩:=x;exact⟨by unfold dpK;lia,by exact⟨a,aH,rfl,t,z⟩⟩
theorem tup_inj {x y:List U}:(U.tup x=U.tup y)↔x=y:=⟨λh=>by cases h;rfl,λh=>by rw[h]⟩
def i_ (prog:ó)(w:â):HeapKind prog w (List U) where
 is:=TK
 hash:=λus=>hK (.tup us)
 draws:=λus=>Vy (.tup us)
 room:=λA=>A.units+20<Ò
 inj:=λhx hy=>tup_inj.mp (KIs.inj hx.is.2 hy.is.2)
 keeps:=λ{h h' k a d o es ep} x ho hd hs=>by
  have kp:∀b aH,h.IsTuple b aH->h'.IsTuple b aH:=λb aH h00=>by
   obtain⟨o',e,c,n,z⟩:=h00;have wV:b≠d:=by
    lia
   exact⟨o',(hs.2 b wV).trans e,c,n,z⟩
  obtain⟨l,aH,t,z⟩:=x;exact⟨l,aH,kp _ _ t,z.keep kp⟩
 pyHash:=λ{A E s k a Q} hu hk h=>Tv 7 (.tup k) (.ref a) A E s Q hk.is.1 (by lia) hk.is.2 h
 eqBool:=λ{A E s x y a b Q} hu hx hy h=>eq_K 7 (.tup x) (.tup y) (.ref a) (.ref b) A hx.is.1 (by lia) hx.is.2 hy.is.2 prog w E Q (by
  simp[*])
 quiet:=λ{A E s k a Q} hk h=>OU 8 (.tup k) (.ref a) A E s Q (ą hk.is.1 (by lia)) hk.is.2 h
def HN (p:List U×I×V)(q:List U×I×d):Prop:=p.1=q.1/\p.2.1=q.2.1/\aX p.2.2 q.2.2
def ZL (e:List U×I×d):DictEntry:=⟨hK (.tup e.1),.ref e.2.1,e.2.2⟩
def WG (a:I)(ep:Nat)(es:List (List U×I×V))(h:É):Prop:=(a==Ă)=M/\∃o ds,∃xs:List (List U×I×d),h.get? a=J o/\o.ExactDict/\o.data=.dict ds ep/\è HN es xs/\ds.toList=xs.map ZL
noncomputable def DN (a:I)(ep:Nat)(es:List (List U×I×V)):HO:=.ext (WG a ep es)
mutual
def KH (H:Hp):U->V->Prop
 | .int i,v=>v=.int i
 | .tup us,v=>∃b ys,v=.ref b/\H b=J (.tup ys)/\us.length<=Å/\ui H us ys
 |_,_=>False
def ui (H:Hp):List U->List V->Prop
 | [],vs=>vs=[]
 |u::us,vs=>∃v r,vs=v::r/\KH H u v/\ui H us r
end
mutual
theorem KH.to {H H':Hp}(e:∀b ys,H b=J (.tup ys)->H' b=J (.tup ys)):∀{u:U} {v:V},KH H u v->KH H' u v
 | .int i,v,h=>by grind[KH]
 | .tup us,v,h=>by
  unfold KH at h |-;obtain⟨b,ys,r,q,l,z⟩:=h;exact⟨b,ys,r,e b ys q,l,ui.to e z⟩
 | .non,v,h=>by unfold KH at h;exact h.elim
 | .bl _,v,h=>by unfold KH at h;exact h.elim
 | .str _,v,h=>by unfold KH at h;exact h.elim
 | .lst _,v,h=>by unfold KH at h;exact h.elim
 | .dct _ _,v,h=>by unfold KH at h;exact h.elim
 | .scr _,v,h=>by unfold KH at h;exact h.elim
 | .obj _ _,v,h=>by unfold KH at h;exact h.elim
theorem ui.to {H H':Hp}(e:∀b ys,H b=J (.tup ys)->H' b=J (.tup ys)):∀{us:List U} {vs:List V},ui H us vs->ui H' us vs
 | [],vs,h=>by grind[ui]
 |u::us,vs,h=>by
  unfold ui at h |-;obtain⟨v,r,q,p,z⟩:=h;exact⟨v,r,q,KH.to e p,ui.to e z⟩
end
mutual
theorem KH.is (ok:jZ P w H h):∀{u:U} {v:V} {x:d},KH H u v->aX v x->KIs h u x
 | .int i,v,x,k,r=>by
  unfold KH at k;subst k;obtain⟨t,rfl⟩:=r;unfold KIs;lia
 | .tup us,v,x,k,r=>by
  unfold KH at k;obtain⟨b,ys,rfl,q,_,z⟩:=k;cases r;obtain⟨_,aH,rv,it,_⟩:=ok b _ q;unfold KIs;exact⟨b,aH.toArray,rfl,it,by simpa using ui.is ok z rv⟩
 | .non,v,x,k,r=>by unfold KH at k;exact k.elim
 | .bl _,v,x,k,r=>by unfold KH at k;exact k.elim
 | .str _,v,x,k,r=>by unfold KH at k;exact k.elim
 | .lst _,v,x,k,r=>by unfold KH at k;exact k.elim
 | .dct _ _,v,x,k,r=>by unfold KH at k;exact k.elim
 | .scr _,v,x,k,r=>by unfold KH at k;exact k.elim
 | .obj _ _,v,x,k,r=>by unfold KH at k;exact k.elim
theorem ui.is (ok:jZ P w H h):∀{us:List U} {vs:List V} {xs:List d},ui H us vs->aZ vs xs->KIss h us xs
 | [],vs,xs,k,r=>by
  unfold ui at k;subst k;cases r;rfl
 |u::us,vs,xs,k,r=>by
  unfold ui at k;obtain⟨v,vr,rfl,p,z⟩:=k;cases r with
  |cons r1 r2=>
   unfold KIss;exact⟨_,_,rfl,KH.is ok p r1,ui.is ok z r2⟩
end
def tf (H:Hp)(us:List U)(b:I):Prop:=dpKs us<=6/\∃ys,H b=J (.tup ys)/\us.length<=Å/\ui H us ys
theorem tf.tk (ok:jZ P w H h)(k:tf H us b):TK h us b:=by
 obtain⟨l,ys,q,_,z⟩:=k;obtain⟨_,aH,rv,it,_⟩:=ok b _ q;exact⟨l,aH.toArray,it,by simpa using ui.is ok z rv⟩
theorem tf.to (e:∀b ys,H b=J (.tup ys)->H' b=J (.tup ys))(k:tf H us b):tf H' us b:=by
 obtain⟨l,ys,q,n,z⟩:=k;exact⟨l,ys,e b ys q,n,z.to e⟩
structure dR (H:Hp)(a:I)(es:List (List U×I×V)):Prop where
 ob:(∃ep,H a=J (DN a ep es))\/(es=[]/\H a=J (.dK []))
 nd:(es.map (·.1)).Nodup
 key:∀e∈es,tf H e.1 e.2.1
theorem uj {α β:Type}{R:α->β->Prop}:∀{xs:List α} {ys:List β} {y:β},è R xs ys->y∈ys->∃x∈xs,R x y
 |_,_,_,.nil,h=>by cases h
 |x::xs,y'::ys,y,.cons r t,h=>by
  rcases Ø.mp h with e|h
  ·subst e;exact⟨x,Ï,r⟩
  ·obtain⟨x',m,q⟩:=uj t h;exact⟨x',Ö _ m,q⟩
theorem uk:∀{es:List (List U×I×V)} {xs:List (List U×I×d)},è HN es xs->es.map (·.1)=xs.map (·.1)
 |_,_,.nil=>rfl
 |_::_,_::_,.cons r t=>by rw[Ç,Ç,uk t,r.1]
theorem dR.of (ok:jZ P w H h)(d:dR H a es):∃xs,è HN es xs/\h.DictOfH (i_ P w) a xs:=by
 rcases d.ob with⟨ep,q⟩|⟨e,q⟩
 ·obtain⟨⟨_,o,ds,xs,h1,h2,h3,h4,h5⟩,_⟩:=ok a _ q;refine⟨xs,h4,o,ds,ep,h1,h2,h3,h5,λx hx=>?_,by rw[<-uk h4];exact d.nd⟩;obtain⟨e,he,r⟩:=uj h4 hx;have:=(d.key e he).tk ok;rw[r.1,r.2.1] at this;exact this
 ·subst e;obtain⟨_,_,vs,rel,dd⟩:=ok a _ q;cases rel;obtain⟨o,ds,ep,h1,h2,h3,h4,h5,h6⟩:=dd;have e0:ds.toList=[]:=by
   generalize ds.toList=l at h5;cases h5;rfl
  exact⟨[],.nil,o,ds,ep,h1,h2,h3,by rw[e0];rfl,(λx hx=>by cases hx),Ģ⟩
theorem dR.lo (ok:jZ P w H h)(d:dR H a es):(a==Ă)=M:=by
 rcases d.ob with⟨ep,q⟩|⟨e,q⟩
 ·obtain⟨⟨l,_⟩,_⟩:=ok a _ q;exact l
 ·obtain⟨_,l,_⟩:=ok a _ q;exact l
noncomputable def f9 (es:List (List U×I×V))(k:List U):Option V:=(es.find? λe=>decide (e.1=k)).map (·.2.2)
def eY (es:List (List U×I×V))(k:List U)(b:I)(v:V):List (List U×I×V):=
 if (f9 es k).isSome then es.map (λe=>if e.1=k then (e.1,e.2.1,v) else e) else es++[(k,b,v)]
theorem kr (k:List U):∀{es:List (List U×I×V)} {xs:List (List U×I×d)},è HN es xs->lW (f9 es k) ((atKey xs k).map (·.2))
 |_,_,.nil=>trivial
 |e::es,x::xs,.cons r t=>by
  have ih:=kr k t;unfold f9 atKey at ih |-;rw[Ŝ,Ŝ];by_cases c:e.1=k
  ·have c':x.1=k:=by rw[<-r.1];exact c
   rw[hJ c,hJ c'];exact r.2.2
  ·have c':¬x.1=k:=by rw[<-r.1];exact c
   rw[hV c,hV c'];exact ih
theorem um (k:List U){u:d}(rv:aX v u){xs:List (List U×I×d)}(p:è HN es xs):è HN (eY es k b v) (storedH xs k b u):=by
 have e:=by
  have:=(kr k p).isSome_eq;rw[σ] at this;exact this
 unfold eY storedH;rw[e];split
 ·rename_i hh;clear hh e
  induction p with
  |nil=>exact .nil
  | @cons q x es xs r t ih=>
   refine .cons ?_ ih;unfold putAt;dsimp only;by_cases c:q.1=k
   ·have c':x.1=k:=by rw[<-r.1];exact c
    rw[h_ c,h_ c'];exact⟨r.1,r.2.1,rv⟩
   ·have c':¬x.1=k:=by rw[<-r.1];exact c
    lia
 ·rename_i hh;clear hh e
  induction p with
  |nil=>exact .cons ⟨rfl,rfl,rv⟩ .nil
  |cons r t ih=>exact .cons r ih
section
variable {d:V}{r:Ì}{k:List U}{A:Ð}
theorem uo (hu:A.units+64<Ò):(i_ X.prog X.w).room A.in1:=by show A.units+1+20<Ò;lia
theorem HP (hu:A.units+64<Ò)(I:aO X pins Y H s)(g:dR H a es)(kb:tf H k b)(e:f9 es k=J v)(h:∀w' s',aO X pins Y H s'->aX v w'->Q w' s') :
  Á (Ä X.prog X.w) A (ś (.ref a) (.ref b)) Q E s:=by
 obtain⟨xs,rel,dd⟩:=g.of I.hok;obtain⟨w',hw,CI⟩:=lW.some_of (by rw[<-e];exact kr k rel);obtain⟨p,hp,JD⟩:=Ţ.mp hw;refine wpAny_getItem_heap (uo hu) (kb.tk I.hok) dd hp ?_;rw[JD];exact h w' _ (I.tok _) CI
theorem OV (hu:A.units+64<Ò)(I:aO X pins Y H s)(g:dR H a es)(kb:tf H k b)(h:∀s',aO X pins Y H s'->Q (.bool (!(f9 es k).isSome)) s') :
  Á (Ä X.prog X.w) A (ă .NotIn (.ref b) (.ref a)) Q E s:=by
 obtain⟨xs,rel,dd⟩:=g.of I.hok;refine wpAny_notIn_heap (uo hu) (kb.tk I.hok) (g.lo I.hok) dd ?_;have q:=(kr k rel).isSome_eq;rw[σ] at q;rw[<-q];exact h _ (I.tok _)
theorem Tw (hu:A.units+64<Ò)(I:aO X pins Y H s)(g:dR H a es)(kb:tf H k b)(rd:aX d r)(h:∀w' s',aO X pins Y H s'->aX ((f9 es k).getD d) w'->Q w' s') :
  Á (Ä X.prog X.w) A (call (.builtin "dict.get") [.ref a,.ref b,r]) Q E s:=by
 obtain⟨xs,rel,dd⟩:=g.of I.hok;exact call_meetsIn ς dd.typeIs Ϧ (ϣ _ _ _) (meetsH_dict_get_default _ a b (g.lo I.hok) r) ⟨uo hu,k,xs,kb.tk I.hok,dd,h _ _ (I.tok _) ((kr k rel).getD rd)⟩
theorem dR.typeIs (I:aO X pins Y H s)(g:dR H a es):s.TypeIs (.ref a) "dict":=by
 obtain⟨xs,rel,dd⟩:=g.of I.hok;exact dd.typeIs
theorem dR.noDict (I:aO X pins Y H s)(g:dR H a es):∀b,Value.ref a=.ref b->∃ob,s.heap.get? b=J ob/\ob.dict=L:=λb q=>by
 cases q;obtain⟨xs,rel,ob,_,_,h1,h2,_⟩:=g.of I.hok;exact⟨ob,h1,h2.2.1⟩
theorem dR.mut (g:dR H a es):Vw (H a):=by
 rcases g.ob with⟨ep,q⟩|⟨_,q⟩<;>(rw[q];exact True.intro)
theorem HQ {Q:Unit->À->Prop}(hu:A.units+64<Ò)(I:aO X pins Y H s)(g:dR H a es)(kb:tf H k b)(hz:es.length<=Å)(rv:aX v r)(h:∀ep s',aO X pins Y (bc H a (DN a ep (eY es k b v))) s'->Q () s') :
  Á (Ä X.prog X.w) A (setItem (.ref a) (.ref b) r) Q E s:=by
 obtain⟨xs,rel,dd⟩:=g.of I.hok;refine wpAny_setItem_heap (hsz:=by rw[<-ő rel];exact hz) (uo hu) (kb.tk I.hok) dd λh' N4 hs=>?_;obtain⟨q,ds,ep,hq,h2,h3,h4,_,h5⟩:=N4;refine h ep _ ?_;refine nG I g.mut hs ⟨q,hq⟩ ⟨⟨g.lo I.hok,q,ds,_,hq,h2,h3,um k rv rel,h4⟩,⟨q,hq⟩,λg1 g2 ⟨l,o,ds,xs,z1,z2⟩ kp=>⟨l,o,ds,xs,kp _ z1,z2⟩⟩
end
end L2
namespace L2
noncomputable def kU:Key->U
 | .inl i=>.int i
 | .inr x=>.str x
def xW (H:Hp)(a:I)(ks:List U)(xs:List V):Prop:=
 (∃aV:List (Key×V),H a=J (.dK aV)/\ks=aV.map (λp=>kU p.1)/\xs=aV.map (·.2)) \/
 ∃es:List (List U×I×V),es≠[]/\dR H a es/\ks=es.map (λp=>.tup p.1)/\xs=es.map (·.2.2)
noncomputable abbrev WH:=xW
def xW.at (h:WH H a ks xs):xW H a ks xs:=h
theorem dR.ne (h:dR H a es)(n:es≠[]):∃ep,H a=J (DN a ep es):=by
 rcases h.ob with q|⟨e,_⟩
 ·exact q
 lia
def OW (K:È)(H:Hp)(a:I)(xs:List V):Prop:=(∃o,H a=J (.frz o (.lst xs))) \/
  ∃(o:Obj) (aH:Array d) (n:Nat),K.lookup a=J o/\o.cls=.type "list"/\o.dict=L/\o.data=.seq aH n/\aH.size<=Å/\aZ xs aH.toList
theorem OW.sq (h:OW K H a xs):fG K H a xs:=by
 rcases h with⟨o,h⟩|h
 ·exact .inl (.inr ⟨o,h⟩)
 ·exact .inr h
theorem OW.to (h:OW K H a xs)(e:∀o y,H a=J (.frz o y)->H' a=J (.frz o y)):OW K H' a xs:=by
 rcases h with⟨o,h⟩|h
 ·exact .inl ⟨o,e _ _ h⟩
 ·exact .inr h
structure CO (K:È)(C:I)(fs:List Str):Prop where
 cl:OE K C
 no:∀f∈fs,jt K C f
 nd:fs.Nodup
mutual
def Rp (K:È)(H:Hp)(A:I->Prop):U->V->Prop
 | .non,v=>v=.non
 | .bl b,v=>v=.bl b
 | .int i,v=>v=.int i
 | .str x,v=>v=.str x
 | .tup us,v=>∃a xs,v=.ref a/\H a=J (.tup xs)/\us.length<=Å/\aP K H A us xs
 | .lst us,v=>∃a xs,v=.ref a/\¬A a/\H a=J (.lst xs)/\us.length<=Å/\aP K H A us xs
 | .dct ks us,v=>∃a xs,v=.ref a/\¬A a/\xW H a ks xs/\us.length<=Å/\aP K H A us xs
 | .scr us,v=>∃a xs,v=.ref a/\OW K H a xs/\us.length<=Å/\aP K H A us xs
 | .obj fs us,v=>∃a C dx xs,v=.ref a/\H a=J (.ins C dx (fs.zip xs))/\CO K C fs/\us.length=fs.length/\aP K H A us xs
def aP (K:È)(H:Hp)(A:I->Prop):List U->List V->Prop
 | [],xs=>xs=[]
 |u::us,xs=>∃x r,xs=x::r/\Rp K H A u x/\aP K H A us r
end
def mq (K:È)(H:Hp)(A:I->Prop):U->I->Prop
 | .lst us,a=>∃xs,H a=J (.lst xs)/\us.length<=Å/\aP K H A us xs
 | .dct ks us,a=>∃xs,WH H a ks xs/\us.length<=Å/\aP K H A us xs
 |_,_=>False
def Pk (K:È)(H:Hp)(A:I->Prop):U->V->Prop
 | .non,v=>v=.non
 | .bl b,v=>v=.bl b
 | .int i,v=>v=.int i
 | .str x,v=>v=.str x
 | .tup us,v=>∃a xs,v=.ref a/\H a=J (.tup xs)/\us.length<=Å/\aP K H A us xs
 | .lst us,v=>∃a xs,v=.ref a/\H a=J (.lst xs)/\us.length<=Å/\aP K H A us xs
 | .dct ks us,v=>∃a xs,v=.ref a/\xW H a ks xs/\us.length<=Å/\aP K H A us xs
 | .scr us,v=>∃a xs,v=.ref a/\OW K H a xs/\us.length<=Å/\aP K H A us xs
 | .obj fs us,v=>∃a C dx xs,v=.ref a/\H a=J (.ins C dx (fs.zip xs))/\CO K C fs/\us.length=fs.length/\aP K H A us xs
def Mu:Option HO->Prop
 |some (.lst _)=>True
 |some (.dK _)=>True
 |some (.dT _)=>True
 |some (.ext _)=>True
 |_=>False
theorem Mu.ex {o:Option HO}(h:Mu o):∃x,o=.some x:=by
 cases o with
 |none=>exact h.elim
 |some x=>lia
def dP (A:I->Prop)(H H':Hp):Prop:=∀b o,¬A b->H b=J o->H' b=J o
def dP.refl:dP A H H:=λ_ _ _ h=>h
def dP.trans (a:dP A H H1)(b:dP A H1 H2):dP A H H2:=λc o n h=>b c o n (a c o n h)
def dP.same (h:aN H H'):dP A H H':=λb o _ e=>h b o e
section
variable {A':I->Prop}
theorem xW.ex (h:xW H a ks xs):∃o,H a=J o:=by
 rcases h with⟨k,h,_⟩|⟨k,n,h,_⟩
 ·exact⟨_,h⟩
 ·obtain⟨ep,q⟩:=h.ne n;exact⟨_,q⟩
theorem xW.to (h:xW H a ks xs)(e:∀o,H a=J o->H' a=J o)(t:∀b ys,H b=J (.tup ys)->H' b=J (.tup ys)):xW H' a ks xs:=by
 rcases h with⟨k,h,z⟩|⟨k,n,h,z⟩
 ·exact .inl ⟨k,e _ h,z⟩
 ·exact .inr ⟨k,n,⟨h.ob.imp (fun⟨ep,q⟩=>⟨ep,e _ q⟩) (λq=>⟨q.1,e _ q.2⟩),h.nd,λy hy=>(h.key y hy).to t⟩,z⟩
mutual
theorem Rp.re (m:∀b,A b->Mu (H b))(e:dP A H H')(n:∀b,A' b->A b\/H b=L):∀{u:U} {v:V},Rp K H A u v->Rp K H' A' u v
 | .non,v,h=>by grind[Rp]
 | .bl b,v,h=>by grind[Rp]
 | .int b,v,h=>by grind[Rp]
 | .str b,v,h=>by grind[Rp]
 | .tup us,v,h=>by
  unfold Rp at h |-;obtain⟨a,xs,r,q,l,z⟩:=h;exact⟨a,xs,r,e a _ (λz=>by have:=m a z;rw[q] at this;exact this) q,l,aP.re m e n z⟩
 | .lst us,v,h=>by
  unfold Rp at h |-;obtain⟨a,xs,r,na,q,l,z⟩:=h;refine⟨a,xs,r,λy=>?_,e a _ na q,l,aP.re m e n z⟩;grind
 | .scr us,v,h=>by
  unfold Rp at h |-;obtain⟨a,xs,r,q,l,z⟩:=h;exact⟨a,xs,r,q.to λo y w=>e a _ (λz=>by have:=m a z;rw[w] at this;exact this) w,l,aP.re m e n z⟩
 | .obj fs us,v,h=>by
  unfold Rp at h |-;obtain⟨a,C,dx,xs,r,q,c,l,z⟩:=h;exact⟨a,C,dx,xs,r,e a _ (λz=>by have:=m a z;rw[q] at this;exact this) q,c,l,aP.re m e n z⟩
 | .dct ks us,v,h=>by
  unfold Rp at h |-;obtain⟨a,xs,r,na,q,l,z⟩:=h;refine⟨a,xs,r,λy=>?_,q.to (λo w=>e a o na w) (λb ys w=>e b _ (λy=>by have:=m b y;rw[w] at this;exact this) w),l,aP.re m e n z⟩;obtain⟨o,w⟩:=q.ex;grind
theorem aP.re (m:∀b,A b->Mu (H b))(e:dP A H H')(n:∀b,A' b->A b\/H b=L):∀{us:List U} {vs:List V},aP K H A us vs->aP K H' A' us vs
 | [],vs,h=>by grind[aP]
 |u::us,vs,h=>by
  unfold aP at h |-;obtain⟨x,r,q,p,z⟩:=h;exact⟨x,r,q,Rp.re m e n p,aP.re m e n z⟩
end
mutual
theorem Rp.mono (n:∀b,A' b->A b):∀{u:U} {v:V},Rp K H A u v->Rp K H A' u v
 | .non,v,h=>by grind[Rp]
 | .bl b,v,h=>by grind[Rp]
 | .int b,v,h=>by grind[Rp]
 | .str b,v,h=>by grind[Rp]
 | .tup us,v,h=>by
  unfold Rp at h |-;obtain⟨a,xs,r,q,l,z⟩:=h;exact⟨a,xs,r,q,l,aP.mono n z⟩
 | .lst us,v,h=>by
  unfold Rp at h |-;obtain⟨a,xs,r,na,q,l,z⟩:=h;exact⟨a,xs,r,λy=>na (n a y),q,l,aP.mono n z⟩
 | .scr us,v,h=>by
  unfold Rp at h |-;obtain⟨a,xs,r,q,l,z⟩:=h;exact⟨a,xs,r,q,l,aP.mono n z⟩
 | .obj fs us,v,h=>by
  unfold Rp at h |-;obtain⟨a,C,dx,xs,r,q,c,l,z⟩:=h;exact⟨a,C,dx,xs,r,q,c,l,aP.mono n z⟩
 | .dct ks us,v,h=>by
  unfold Rp at h |-;obtain⟨a,xs,r,na,q,l,z⟩:=h;exact⟨a,xs,r,λy=>na (n a y),q,l,aP.mono n z⟩
theorem aP.mono (n:∀b,A' b->A b):∀{us:List U} {vs:List V},aP K H A us vs->aP K H A' us vs
 | [],vs,h=>by grind[aP]
 |u::us,vs,h=>by
  unfold aP at h |-;obtain⟨x,r,q,p,z⟩:=h;exact⟨x,r,q,Rp.mono n p,aP.mono n z⟩
end
mutual
theorem Rp.same (e:aN H H'):∀{u:U} {v:V},Rp K H A u v->Rp K H' A u v
 | .non,v,h=>by grind[Rp]
 | .bl b,v,h=>by grind[Rp]
 | .int b,v,h=>by grind[Rp]
 | .str b,v,h=>by grind[Rp]
 | .tup us,v,h=>by
  unfold Rp at h |-;obtain⟨a,xs,r,q,l,z⟩:=h;exact⟨a,xs,r,e a _ q,l,aP.same e z⟩
 | .lst us,v,h=>by
  unfold Rp at h |-;obtain⟨a,xs,r,na,q,l,z⟩:=h;exact⟨a,xs,r,na,e a _ q,l,aP.same e z⟩
 | .scr us,v,h=>by
  unfold Rp at h |-;obtain⟨a,xs,r,q,l,z⟩:=h;exact⟨a,xs,r,q.to λo y w=>e a _ w,l,aP.same e z⟩
 | .obj fs us,v,h=>by
  unfold Rp at h |-;obtain⟨a,C,dx,xs,r,q,c,l,z⟩:=h;exact⟨a,C,dx,xs,r,e a _ q,c,l,aP.same e z⟩
 | .dct ks us,v,h=>by
  unfold Rp at h |-;obtain⟨a,xs,r,na,q,l,z⟩:=h;exact⟨a,xs,r,na,q.to (λo w=>e a o w) (λb ys w=>e b _ w),l,aP.same e z⟩
theorem aP.same (e:aN H H'):∀{us:List U} {vs:List V},aP K H A us vs->aP K H' A us vs
 | [],vs,h=>by grind[aP]
 |u::us,vs,h=>by
  unfold aP at h |-;obtain⟨x,r,q,p,z⟩:=h;exact⟨x,r,q,Rp.same e p,aP.same e z⟩
end
theorem aP.length:∀{us:List U} {vs:List V},aP K H A us vs->us.length=vs.length
 | [],_,h=>by subst h;rfl
 |u::us,_,h=>by
  obtain⟨x,r,rfl,_,q⟩:=h;rw[Ù,Ù,aP.length q]
theorem aP.get:∀{us:List U} {vs:List V} {i:Nat} {u:U},aP K H A us vs->us[i]? = J u->∃v,vs[i]? = J v/\Rp K H A u v
 | [],_,_,_,_,e=>by simp at e
 |w::us,_,i,u,h,e=>by
  obtain⟨x,r,rfl,p,q⟩:=h;cases i with
  |zero=>grind
  |succ i=>
   obtain⟨v,a,b⟩:=aP.get q (by simpa using e);exact⟨v,by simpa using a,b⟩
def aP.nil:aP K H A [] []:=by rfl
def aP.cons (h:Rp K H A u v)(t:aP K H A us vs):aP K H A (u::us) (v::vs):=by exact⟨v,vs,rfl,h,t⟩
theorem aP.append:∀{us ws:List U} {vs xs:List V},aP K H A us vs->aP K H A ws xs->aP K H A (us++ws) (vs++xs)
 | [],ws,vs,xs,h,t=>by subst h;exact t
 |u::us,ws,vs,xs,h,t=>by
  obtain⟨x,r,rfl,p,q⟩:=h;exact aP.cons p (aP.append q t)
theorem aP.take:∀{us:List U} {vs:List V} (n:Nat),aP K H A us vs->aP K H A (us.take n) (vs.take n)
 | [],vs,n,h=>by subst h;simp;exact aP.nil
 |u::us,vs,0,h=>by exact aP.nil
 |u::us,vs,n+1,h=>by
  obtain⟨x,r,rfl,p,q⟩:=h;exact aP.cons p (aP.take n q)
theorem aP.set:∀{us:List U} {vs:List V} (n:Nat) {u:U} {v:V},Rp K H A u v->aP K H A us vs->aP K H A (us.set n u) (vs.set n v)
 | [],vs,n,_,_,_,h=>by subst h;exact aP.nil
 |u::us,vs,0,_,_,p',h=>by
  obtain⟨x,r,rfl,p,q⟩:=h;exact aP.cons p' q
 |u::us,vs,n+1,_,_,p',h=>by
  obtain⟨x,r,rfl,p,q⟩:=h;exact aP.cons p (aP.set n p' q)
theorem Rp.pk (h:Rp K H A u v):Pk K H A u v:=by
 cases u<;>(unfold Pk)
 case lst us=>obtain⟨a,xs,r,na,q⟩:=h;exact⟨a,xs,r,q⟩
 case dct ks us=>obtain⟨a,xs,r,na,q⟩:=h;exact⟨a,xs,r,q⟩
 all_goals exact h
theorem Pk.same (e:aN H H')(h:Pk K H A u v):Pk K H' A u v:=by
 cases u<;>(unfold Pk at h |-)
 case tup us=>obtain⟨a,xs,r,q,l,z⟩:=h;exact⟨a,xs,r,e a _ q,l,z.same e⟩
 case lst us=>obtain⟨a,xs,r,q,l,z⟩:=h;exact⟨a,xs,r,e a _ q,l,z.same e⟩
 case scr us=>obtain⟨a,xs,r,q,l,z⟩:=h;exact⟨a,xs,r,q.to λo y w=>e a _ w,l,z.same e⟩
 case obj fs us=>obtain⟨a,C,dx,xs,r,q,c,l,z⟩:=h;exact⟨a,C,dx,xs,r,e a _ q,c,l,z.same e⟩
 case dct ks us=>obtain⟨a,xs,r,q,l,z⟩:=h;exact⟨a,xs,r,q.to (λo w=>e a o w) (λb ys w=>e b _ w),l,z.same e⟩
 all_goals exact h
theorem mq.pk (h:mq K H A u a):Pk K H A u (.ref a):=by
 cases u<;>(unfold Pk)
 case lst us=>obtain⟨xs,q,l,z⟩:=h;exact⟨a,xs,rfl,q,l,z⟩
 case dct ks us=>obtain⟨xs,q,l,z⟩:=h;exact⟨a,xs,rfl,q.at,l,z⟩
 all_goals exact h.elim
theorem mq.rp (h:mq K H A u a)(n:∀b,A' b->A b)(na:¬A' a):Rp K H A' u (.ref a):=by
 cases u<;>(unfold Rp)
 case lst us=>obtain⟨xs,q,l,z⟩:=h;exact⟨a,xs,rfl,na,q,l,z.mono n⟩
 case dct ks us=>obtain⟨xs,q,l,z⟩:=h;exact⟨a,xs,rfl,na,q.at,l,z.mono n⟩
 all_goals exact h.elim
theorem mq.re (m:∀b,A b->Mu (H b))(e:dP A H H')(n:∀b,A' b->A b\/H b=L)(ea:∀o,H a=J o->H' a=J o)(h:mq K H A u a):mq K H' A' u a:=by
 cases u<;>(unfold mq at h |-)
 case lst us=>obtain⟨xs,q,l,z⟩:=h;exact⟨xs,ea _ q,l,z.re m e n⟩
 case dct ks us=>obtain⟨xs,q,l,z⟩:=h;exact⟨xs,q.to ea (λb ys w=>e b _ (λy=>by have:=m b y;rw[w] at this;exact this) w),l,z.re m e n⟩
 all_goals exact h.elim
theorem mq.mu (h:mq K H A u a):Mu (H a):=by
 cases u<;>(unfold mq at h)
 case lst us=>obtain⟨xs,q,_⟩:=h;rw[q];trivial
 case dct ks us=>
  obtain⟨xs,q,_⟩:=h;rcases q with⟨k,q,_⟩|⟨k,n,q,_⟩
  ·rw[q];trivial
  ·obtain⟨ep,q⟩:=q.ne n;rw[q];trivial
 all_goals exact h.elim
end
structure Pkg where
 A0:I->Prop
 B:Hp
 a0:I
structure Gm where
 own:List Bool
 io:Bool
 W:Hp->Prop
noncomputable def Gm.is (G:Gm)(i:Nat):Bool:=G.own.getD i M
structure cz (K:È)(G:Gm)(ZQ:Pkg)(A:I->Prop)(B:Ev)(Y:St)(H:Hp):Prop where
 slot:∀i u,B[i]? = J (J u)->∃v,Y[i]? = J (J v)/\if G.is i=Z then (∃a,v=.ref a/\A a/\ZQ.B a=L/\(¬ZQ.A0 a\/(G.io=Z/\i=0))/\mq K H A u a) else Rp K H A u v
 dis:∀i j u w a,G.is i=Z->G.is j=Z->i≠j->B[i]? = J (J u)->B[j]? = J (J w)->Y[i]? = J (J (.ref a))->Y[j]? = J (J (.ref a))->False
 mu:∀a,A a->Mu (H a)
 sup:∀a,ZQ.A0 a->A a
 out:∀a,A a->ZQ.A0 a\/ZQ.B a=L
 bas:∀a o,ZQ.B a=J o->H a=J o
 io0:G.io=Z->Y[0]? = J (J (.ref ZQ.a0))/\G.is 0=Z
 len:B.length=Y.length
section
variable {A':I->Prop}{G:Gm}{ZQ:Pkg}{B':Ev}
theorem cz.same (r:cz K G ZQ A B Y H)(e:aN H H'):cz K G ZQ A B Y H' where
 slot:=λi u h=>by
  obtain⟨v,h1,h2⟩:=r.slot i u h;refine⟨v,h1,?_⟩;by_cases c:G.is i=Z
  ·rw[h_ c] at h2 |-;obtain⟨a,e1,e2,e3,e4,e5⟩:=h2;exact⟨a,e1,e2,e3,e4,e5.re r.mu (dP.same e) (λb z=>.inl z) λo w=>e a o w⟩
  ·rw[hZ c] at h2 |-;exact h2.same e
 dis:=r.dis
 mu:=λa h=>by
  have m:=r.mu a h;obtain⟨o,q⟩:=m.ex;rw[e a o q,<-q];exact m
 sup:=r.sup
 out:=r.out
 bas:=λa o h=>e a o (r.bas a o h)
 io0:=r.io0
 len:=r.len
theorem cz.add (r:cz K G ZQ A B Y H)(e:aN H H')(n:H a=L)(m:Mu (H' a)):cz K G ZQ (λb=>A b\/b=a) B Y H' where
 slot:=λi u h=>by
  have q:∀b,(A b\/b=a)->A b\/H b=L:=λb z=>by
   lia
  obtain⟨v,h1,h2⟩:=r.slot i u h;refine⟨v,h1,?_⟩;by_cases c:G.is i=Z
  ·rw[h_ c] at h2 |-;obtain⟨b,e1,e2,e3,e4,e5⟩:=h2;exact⟨b,e1,.inl e2,e3,e4,e5.re r.mu (dP.same e) q λo w=>e b o w⟩
  ·rw[hZ c] at h2 |-;exact h2.re r.mu (dP.same e) q
 dis:=r.dis
 mu:=λb h=>by
  rcases h with h|h
  ·exact (r.same e).mu b h
  lia
 sup:=λb h=>.inl (r.sup b h)
 out:=λb h=>by
  rcases h with h|h
  ·exact r.out b h
  ·subst h;refine .inr ?_;cases q:ZQ.B b with
   |none=>rfl
   |some o=>rw[r.bas b o q] at n;cases n
 bas:=λa o h=>e a o (r.bas a o h)
 io0:=r.io0
 len:=r.len
def cz.notA (r:cz K G ZQ A B Y H)(n:H a=L):¬A a:=λz=>by
 have:=r.mu a z;rw[n] at this;exact this
theorem cz.notB (r:cz K G ZQ A B Y H)(n:H a=L):ZQ.B a=L:=by
 cases q:ZQ.B a with
 |none=>rfl
 |some o=>rw[r.bas a o q] at n;cases n
theorem cz.val (r:cz K G ZQ A B Y H)(c:G.is i=M)(h:B[i]? = J (J u)):∃v,Y[i]? = J (J v)/\Rp K H A u v:=by
 obtain⟨v,h1,h2⟩:=r.slot i u h;grind
theorem cz.own (r:cz K G ZQ A B Y H)(c:G.is i=Z)(h:B[i]? = J (J u)):∃a,Y[i]? = J (J (.ref a))/\A a/\ZQ.B a=L/\(¬ZQ.A0 a\/(G.io=Z/\i=0))/\mq K H A u a:=by
 obtain⟨v,h1,h2⟩:=r.slot i u h;rw[h_ c] at h2;obtain⟨a,rfl,z⟩:=h2;exact⟨a,h1,z⟩
end
end L2
variable {ZQ:L2.Pkg}{G:L2.Gm}
namespace L2
inductive Md where
 |S|O|P
 deriving DecidableEq
def AG (K:È)(G:Gm)(ZQ:Pkg)(m:Md)(A:I->Prop)(B:Ev)(Y:St)(H:Hp)(u:U)(v:V):Prop:=match m with
 | .S=>Rp K H A u v
 | .P=>Pk K H A u v
 | .O=>∃a,v=.ref a/\¬A a/\ZQ.B a=L/\cz K G ZQ (λb=>A b\/b=a) B Y H/\mq K H (λb=>A b\/b=a) u a
def HU (K:È)(m:Md)(A:I->Prop)(H H':Hp)(u:U)(v:V):Prop:=match m with
 | .S=>Rp K H' A u v
 | .P=>Pk K H' A u v
 | .O=>∃a,v=.ref a/\H a=L/\mq K H' (λb=>A b\/b=a) u a
def HV (K:È)(G:Gm)(ZQ:Pkg)(A:I->Prop)(b:Bool)(m:Md)(B:Ev)(Y:St)(H:Hp):R (U×Ev)->VK->Prop
 | .ok (u,B'),Q=>∀v H',cz K G ZQ A B' Y H'->dP A H H'->(b=M->B'=B/\aN H H')->AG K G ZQ m A B' Y H' u v->Q v H'
 |_,_=>False
def tD (K:È)(G:Gm)(b:Bool)(m:Md)(g:Ev->R (U×Ev)):TE:=λY H Q=>∃ZQ A B,cz K G ZQ A B Y H/\HV K G ZQ A b m B Y H (g B) Q
structure DE (X:Cx)(G:Gm)(e:Æ)(b:Bool)(m:Md)(g:Ev->R (U×Ev)):Prop where
 un:PE X e (tD X.K G b m g)
def OX (K:È)(G:Gm)(ZQ:Pkg)(A:I->Prop)(b:Bool)(B:Ev)(Y:St)(H:Hp):R (Bool×Ev)->(Bool->Hp->Prop)->Prop
 | .ok (c,B'),Q=>∀H',cz K G ZQ A B' Y H'->dP A H H'->(b=M->B'=B/\aN H H')->Q c H'
 |_,_=>False
def Fu (K:È)(G:Gm)(b:Bool)(g:Ev->R (Bool×Ev)):TT:=λY H Q=>∃ZQ A B,cz K G ZQ A B Y H/\OX K G ZQ A b B Y H (g B) Q
structure DT (X:Cx)(G:Gm)(e:Æ)(b:Bool)(g:Ev->R (Bool×Ev)):Prop where
 un:PT X e (Fu X.K G b g)
def Oh (K:È)(H:Hp)(A:I->Prop):List U->List V->Prop
 | [],vs=>vs=[]
 |u::us,vs=>∃x r,vs=x::r/\Pk K H A u x/\Oh K H A us r
def Vz (K:È)(p:Bool)(A:I->Prop)(H:Hp)(us:List U)(vs:List V):Prop:=if p=Z then Oh K H A us vs else aP K H A us vs
def OY (K:È)(G:Gm)(ZQ:Pkg)(A:I->Prop)(b p:Bool)(B:Ev)(Y:St)(H:Hp):R (List U×Ev)->(List V->Hp->Prop)->Prop
 | .ok (us,B'),Q=>∀vs H',cz K G ZQ A B' Y H'->dP A H H'->(b=M->B'=B/\aN H H')->Vz K p A H' us vs->Q vs H'
 |_,_=>False
def ZM (K:È)(G:Gm)(b p:Bool)(g:Ev->R (List U×Ev)):TA:=λY H Q=>∃ZQ A B,cz K G ZQ A B Y H/\OY K G ZQ A b p B Y H (g B) Q
structure DA (X:Cx)(G:Gm)(es:List Æ)(b p:Bool)(g:Ev->R (List U×Ev)):Prop where
 un:PA X es (ZM X.K G b p g)
section
variable {e:Æ}{t t':TE}
def PE.to (h:PE X e t)(i:∀Y H Q,t' Y H Q->t Y H Q):PE X e t':=λpins s Y H Q I q=>h pins s Y H Q I (i _ _ _ q)
def PT.to {t t':TT}(h:PT X e t)(i:∀Y H Q,t' Y H Q->t Y H Q):PT X e t':=λpins s Y H Q I q=>h pins s Y H Q I (i _ _ _ q)
def PW.to {t t':TT}(h:PW X e t)(i:∀Y H Q,t' Y H Q->t Y H Q):PW X e t':=λpA pins s Y H Q I q=>h pA pins s Y H Q I (i _ _ _ q)
def PA.to {es:List Æ}{t t':TA}(h:PA X es t)(i:∀Y H Q,t' Y H Q->t Y H Q):PA X es t':=λpos pins s Y H Q I q=>h pos pins s Y H Q I (i _ _ _ q)
def PS.to {t t':TS}(h:PS X st t)(i:∀D Y H,t' D Y H->t D Y H):PS X st t':=λpins s Y H D I q=>h pins s Y H D I (i _ _ _ q)
def tX.to {st:List Ë}{t t':TS}(h:tX X st t)(i:∀D Y H,t' D Y H->t D Y H):tX X st t':=λpins s Y H D I q=>h pins s Y H D I (i _ _ _ q)
def PG.to {t t':TG}(h:PG X e t)(i:∀v Y H Q,t' v Y H Q->t v Y H Q):PG X e t':=λpins s Y H v u Q I r q=>h pins s Y H v u Q I r (i _ _ _ _ q)
end
section
variable {A':I->Prop}{B':Ev}{m:Md}{b:Bool}
theorem AG.rp (h:AG K G ZQ m A B Y H u v)(n:m≠.P):Rp K H A u v:=by
 cases m with
 |S=>exact h
 |O=>
  obtain⟨a,rfl,na,_,_,t⟩:=h;exact t.rp (λb z=>.inl z) na
 |P=>lia
theorem AG.pk (h:AG K G ZQ m A B Y H u v):Pk K H A u v:=by
 by_cases c:m=.P
 ·subst c;exact h
 ·exact (h.rp c).pk
theorem HU.e (r:cz K G ZQ A B Y H)(s:aN H H')(h:HU K m A H H' u v):AG K G ZQ m A B Y H' u v:=by
 cases m with
 |S=>exact h
 |P=>exact h
 |O=>
  obtain⟨a,rfl,n,t⟩:=h;exact⟨a,rfl,r.notA n,r.notB n,r.add s n t.mu,t⟩
def AG.later (r:cz K G ZQ A B Y H)(h:AG K G ZQ m A B Y H u v)(x:dP A H H')(s:b=M->B'=B/\aN H H')(c:m=.P->b=M):Pk K H' A u v:=by
 by_cases d:m=.P
 ·exact h.pk.same (s (c d)).2
 ·exact ((h.rp d).re r.mu x λb z=>.inl z).pk
def AG.laterS (r:cz K G ZQ A B Y H)(h:AG K G ZQ m A B Y H u v)(x:dP A H H')(d:m≠.P):Rp K H' A u v:=(h.rp d).re r.mu x λb z=>.inl z
theorem two {b1 b2:Bool}{B1 B2:Ev}(h1:b1=M->B1=B/\aN H H1)(h2:b2=M->B2=B1/\aN H1 H2):(b1||b2)=M->B2=B/\aN H H2:=λh=>by
 rw[Ž] at h;obtain⟨a,b⟩:=h1 h.1;obtain⟨c,d⟩:=h2 h.2;exact⟨c.trans a,b.trans d⟩
def sr {b1:Bool}{B1:Ev}(h1:b1=M->B1=B/\aN H H1)(h2:aN H1 H2):b1=M->B1=B/\aN H H2:=λh=>⟨(h1 h).1,(h1 h).2.trans h2⟩
end
noncomputable def ah (i:Nat):Ev->R (U×Ev):=λB=>match B[i]? with
 |some (J u)=>.ok (u,B)
 |_=>.stk
noncomputable def gC (u:U):Ev->R (U×Ev):=λB=>.ok (u,B)
section
variable {e a b c:Æ}{es:List Æ}{pos:Pos}
theorem WI {b:Bool}{m:Md}(h:PE X e (wW i))(c:G.is i=M):DE X G e M .S (ah i):=by
 refine⟨h.to λY H Q ⟨ZQ,A,B,r,f⟩=>?_⟩;unfold ah at f;split at f
 ·rename_i u hu;obtain⟨v,h1,h2⟩:=r.val c hu;exact⟨v,h1,f v H r dP.refl (λ_=>⟨rfl,aN.refl _⟩) h2⟩
 ·exact f.elim
def aj (i:Nat)(hN:X.N[i]? = J x:=by rfl)(hv:AN X.env.scope x:=by first|exact Or.inl rfl|exact Or.inr (Or.inl rfl)|exact Or.inr (Or.inr rfl))(hd:(x==("__debug__":Str))=M:=by decide)
  (jX:(x==("__classdict__":Str))=M:=by decide) (c:G.is i=M:=by rfl):DE X G (.Name x pos) M .S (ah i):=WI (b:=M) (m:=.S) (eN hN hv hd jX) c
theorem gh (i:Nat)(hN:X.N[i]? = J x:=by rfl)(hv:AN X.env.scope x:=by first|exact Or.inl rfl|exact Or.inr (Or.inl rfl)|exact Or.inr (Or.inr rfl))(hd:(x==("__debug__":Str))=M:=by decide)
  (jX:(x==("__classdict__":Str))=M:=by decide) (c:G.is i=Z:=by rfl):DE X G (.Name x pos) M .P (ah i):=by
 refine⟨(eN hN hv hd jX).to λY H Q ⟨ZQ,A,B,r,f⟩=>?_⟩;unfold ah at f;split at f
 ·rename_i u hu;obtain⟨a,h1,_,_,_,h2⟩:=r.own c hu;exact⟨.ref a,h1,f _ H r dP.refl (λ_=>⟨rfl,aN.refl _⟩) h2.pk⟩
 ·exact f.elim
def Ks (h:PE X e (tC v))(r:∀K H A,Rp K H A u v):DE X G e M .S (gC u):=by
 refine⟨h.to λY H Q ⟨ZQ,A,B,q,f⟩=>?_⟩;exact f v H q dP.refl (λ_=>⟨rfl,aN.refl _⟩) (r _ _ _)
def au {i j pos}:DE X G (.Constant (.int i) j pos) M .S (gC (.int i)):=Ks yR λ_ _ _=>by rfl
def nO {i j pos}:DE X G (.Constant (.bool i) j pos) M .S (gC (.bl i)):=Ks VZ λ_ _ _=>by rfl
def Kt {j pos}:DE X G (.Constant .none j pos) M .S (gC .non):=Ks SV λ_ _ _=>by rfl
def bN {i j pos}:DE X G (.Constant (.str i) j pos) M .S (gC (.str i)):=Ks JN λ_ _ _=>by rfl
def uq {i:Int}{tk:Tok}(hg:Gl X x)(hm:X.mg x=J (.int i tk))(hd:(x==("__debug__":Str))=M:=by decide):DE X G (.Name x pos) M .S (gC (.int i)):=Ks (v:=.int i) (Ot hg hm ⟨_,rfl⟩ hd) λ_ _ _=>by rfl
def aS (p:U->U->R U)(g1 g2:Ev->R (U×Ev)):Ev->R (U×Ev):=λB=>(g1 B).bind λx=>(g2 x.2).bind λy=>(p x.1 y.1).bind λz=>.ok (z,y.2)
def fK (K:È)(r:R2)(m:Md)(p:U->U->R U):Prop:=∀A H x y u w z Q,Pk K H A u x->Pk K H A w y->(∀a,A a->Mu (H a))->p u w=.ok z->(∀v H',aN H H'->HU K m A H H' z v->Q v H')->r x y H Q
variable {b1 b2 b3:Bool}{m1 m2 m3 mr:Md}{g1 g2 g3:Ev->R (U×Ev)}
theorem nP {p:U->U->R U}(hp:fK X.K r mr p)(hm:m1=.P->b2=M){Q:VK}(h:tD X.K G (b1||b2) mr (aS p g1 g2) Y H Q) :
  Wc r (tD X.K G b1 m1 g1) (tD X.K G b2 m2 g2) Y H Q:=by
 obtain⟨ZQ,A,B,q,f⟩:=h;unfold aS at f;refine⟨ZQ,A,B,q,?_⟩;cases e1:g1 B with
 |stk=>rw[e1] at f;exact f.elim
 |exc=>rw[e1] at f;exact f.elim
 |ok x=>
  obtain⟨u,B1⟩:=x;rw[e1] at f;intro v1 H1 q1 x1 s1 qN;refine⟨ZQ,A,B1,q1,?_⟩;cases e2:g2 B1 with
  |stk=>simp only[R.bind,e2] at f;exact f.elim
  |exc=>simp only[R.bind,e2] at f;exact f.elim
  |ok y=>
   obtain⟨w,B2⟩:=y;simp only[R.bind,e2] at f;intro v2 H2 q2 x2 s2 yP;cases e3:p u w with
   |stk=>rw[e3] at f;exact f.elim
   |exc=>rw[e3] at f;exact f.elim
   |ok z=>
    rw[e3] at f;refine hp A H2 v1 v2 u w z Q (qN.later q1 x2 s2 hm) yP.pk q2.mu e3 λv H' sm vm=>?_;exact f v H' (q2.same sm) ((x1.trans x2).trans (dP.same sm)) (sr (two s1 s2) sm) (vm.e q2 sm)
def aW {op:Operator}{p:U->U->R U}(ho:kh X (ě op) r)(hp:fK X.K r mr p)(ha:DE X G a b1 m1 g1)(hb:DE X G b b2 m2 g2)(hm:m1=.P->b2=M:=by first|exact λ_=>rfl|exact λh=>nomatch h) :
  DE X G (.BinOp a op b pos) (b1||b2) mr (aS p g1 g2):=⟨(Wd ho ha.un hb.un).to λ_ _ _=>nP hp hm⟩
def mH {p:U->U->R U}(ho:kh X (ă op) r)(hp:fK X.K r mr p)(ha:DE X G a b1 m1 g1)(hb:DE X G b b2 m2 g2)(hk:Ŗ op b=M)(hm:m1=.P->b2=M:=by first|exact λ_=>rfl|exact λh=>nomatch h) :
  DE X G (.Compare a [op] [b] pos) (b1||b2) mr (aS p g1 g2):=⟨(OB ho ha.un hb.un hk).to λ_ _ _=>nP hp hm⟩
def aL {p:U->U->R U}(ho:Of X r)(hp:fK X.K r mr p)(ha:DE X G a b1 m1 g1)(hb:DE X G b b2 m2 g2)(hs:Fo b)(hm:m1=.P->b2=M:=by first|exact λ_=>rfl|exact λh=>nomatch h) :
  DE X G (.Subscript a b pos) (b1||b2) mr (aS p g1 g2):=⟨(Wr ho ha.un hb.un hs).to λ_ _ _=>nP hp hm⟩
def gB (g:Ev->R (U×Ev)):Ev->R (Bool×Ev):=λB=>(g B).bind λx=>match x.1 with
 | .bl c=>.ok (c,x.2)
 |_=>.stk
theorem xX {m:Md}{Q:Bool->Hp->Prop}(h:Fu X.K G b1 (gB g) Y H Q):tD X.K G b1 m g Y H λx H'=>∃k,x=.bl k/\Q k H':=by
 obtain⟨ZQ,A,B,q,f⟩:=h;refine⟨ZQ,A,B,q,?_⟩;unfold gB at f;cases e1:g B with
 |stk=>rw[e1] at f;exact f.elim
 |exc=>rw[e1] at f;exact f.elim
 |ok x=>
  obtain⟨u,B1⟩:=x;rw[e1] at f;intro v H1 q1 x1 s1 vm;cases u with
  |bl c=>
   have e:=by have:=vm.pk;exact this
   exact⟨c,e,f H1 q1 x1 s1⟩
  |_=>exact f.elim
def jy (h:DE X G e b1 m1 g1)(he:∀pA,isTrue e X.env pA=(do let v ←pA;standAt e.pos;holding [v] (truthy v)):=by intro _;rfl):DT X G e b1 (gB g1):=⟨(SW h.un he).to λ_ _ _ h=>xX h⟩
def bJ {p:U->U->R U}(ho:kh X (ă op) r)(hp:fK X.K r mr p)(ha:DE X G a b1 m1 g1)(hb:DE X G b b2 m2 g2)(hk:Ŗ op b=M)(hm:m1=.P->b2=M:=by first|exact λ_=>rfl|exact λh=>nomatch h) :
  DT X G (.Compare a [op] [b] pos) (b1||b2) (gB (aS p g1 g2)):=⟨(Fj ho ha.un hb.un hk).to λ_ _ _ h=>nP hp hm (xX h)⟩
end
end L2
namespace L2
section
variable {A':I->Prop}{B':Ev}{b p:Bool}{m:Md}{α:Type}
theorem HV.bind {x:R α}{k:α->R (U×Ev)}{Q:VK}(f:HV K G ZQ A b m B Y H (x.bind k) Q):∃a,x=.ok a/\HV K G ZQ A b m B Y H (k a) Q:=by
 cases x with
 |ok a=>exact⟨a,rfl,f⟩
 |exc=>exact f.elim
 |stk=>exact f.elim
theorem OX.bind {x:R α}{k:α->R (Bool×Ev)}{Q:Bool->Hp->Prop}(f:OX K G ZQ A b B Y H (x.bind k) Q):∃a,x=.ok a/\OX K G ZQ A b B Y H (k a) Q:=by
 cases x with
 |ok a=>exact⟨a,rfl,f⟩
 |exc=>exact f.elim
 |stk=>exact f.elim
theorem OY.bind {x:R α}{k:α->R (List U×Ev)}{Q:List V->Hp->Prop}(f:OY K G ZQ A b p B Y H (x.bind k) Q):∃a,x=.ok a/\OY K G ZQ A b p B Y H (k a) Q:=by
 cases x with
 |ok a=>exact⟨a,rfl,f⟩
 |exc=>exact f.elim
 |stk=>exact f.elim
def Pk.bl {c:Bool}(h:Pk K H A (.bl c) v):v=.bl c:=by exact h
def Pk.int {i:Int}(h:Pk K H A (.int i) v):v=.int i:=by exact h
def Pk.str {i:Str}(h:Pk K H A (.str i) v):v=.str i:=by exact h
def gx {c:Bool}:Rp K H A (.bl c) (.bl c):=by rfl
def df:Rp K H A (.int c) (.int c):=by rfl
def AG.ofS (h:Rp K H A u v):AG K G ZQ .S A B Y H u v:=h
def ur:Rp K H A .non .non:=by rfl
def Tx {c:Str}:Rp K H A (.str c) (.str c):=by rfl
theorem aP.pks:∀{us:List U} {vs:List V},aP K H A us vs->Oh K H A us vs
 | [],_,h=>by exact h
 |u::us,_,h=>by
  obtain⟨x,r,e,z,q⟩:=h;exact⟨x,r,e,z.pk,aP.pks q⟩
end
section
variable {e a b c:Æ}{es rest:List Æ}{pos:Pos}{b1 b2 b3:Bool}{m1 m2 m3 mr:Md}{g1 g2 g3:Ev->R (U×Ev)}{h1 h2:Ev->R (Bool×Ev)}
def OZ (g1 g2:Ev->R (Bool×Ev)):Ev->R (Bool×Ev):=λB=>(g1 B).bind λx=>if x.1=Z then g2 x.2 else .ok (M,x.2)
def WK (g1 g2:Ev->R (Bool×Ev)):Ev->R (Bool×Ev):=λB=>(g1 B).bind λx=>if x.1=Z then .ok (Z,x.2) else g2 x.2
def Ba (g1:Ev->R (Bool×Ev)):Ev->R (Bool×Ev):=λB=>(g1 B).bind λx=>.ok (!x.1,x.2)
structure DW (X:Cx)(G:Gm)(e:Æ)(b:Bool)(g:Ev->R (Bool×Ev)):Prop where
 un:PW X e (Fu X.K G b g)
def DW.dt (h:DW X G e b1 h1):DT X G e b1 h1:=⟨PW.pt h.un⟩
theorem Ku {Q:Bool->Hp->Prop}(h:Fu X.K G (b1||b2) (OZ h1 h2) Y H Q):V0 (Fu X.K G b1 h1) (Fu X.K G b2 h2) Y H Q:=by
 obtain⟨ZQ,A,B,q,f⟩:=h;obtain⟨⟨k,B1⟩,e1,f⟩:=f.bind;refine⟨ZQ,A,B,q,?_⟩;rw[e1];intro H1 q1 x1 s1;cases k with
 |true=>
  refine⟨ZQ,A,B1,q1,?_⟩;cases e2:h2 B1 with
  |ok y=>rw[e2] at f;exact λH2 q2 x2 s2=>f H2 q2 (x1.trans x2) (two s1 s2)
  |exc=>rw[e2] at f;exact f.elim
  |stk=>rw[e2] at f;exact f.elim
 |false=>
  exact f H1 q1 x1 λz=>s1 (Ž.mp z).1
theorem O0 {Q:Bool->Hp->Prop}(h:Fu X.K G (b1||b2) (WK h1 h2) Y H Q):tOr (Fu X.K G b1 h1) (Fu X.K G b2 h2) Y H Q:=by
 obtain⟨ZQ,A,B,q,f⟩:=h;obtain⟨⟨k,B1⟩,e1,f⟩:=f.bind;refine⟨ZQ,A,B,q,?_⟩;rw[e1];intro H1 q1 x1 s1;cases k with
 |false=>
  refine⟨ZQ,A,B1,q1,?_⟩;cases e2:h2 B1 with
  |ok y=>rw[e2] at f;exact λH2 q2 x2 s2=>f H2 q2 (x1.trans x2) (two s1 s2)
  |exc=>rw[e2] at f;exact f.elim
  |stk=>rw[e2] at f;exact f.elim
 |true=>
  exact f H1 q1 x1 λz=>s1 (Ž.mp z).1
def O1 (ha:DT X G a b1 h1):DW X G (.BoolOp .And [a] pos) b1 h1:=⟨Ou ha.un⟩
def Kv (ha:DT X G a b1 h1):DW X G (.BoolOp .Or [a] pos) b1 h1:=⟨SX ha.un⟩
def Tz (ha:DT X G a b1 h1)(hb:DW X G (.BoolOp .And (b::rest) pos) b2 h2):DW X G (.BoolOp .And (a::b::rest) pos) (b1||b2) (OZ h1 h2):=⟨(SY ha.un hb.un).to λ_ _ _=>Ku⟩
def Q2 (ha:DT X G a b1 h1)(hb:DW X G (.BoolOp .Or (b::rest) pos) b2 h2):DW X G (.BoolOp .Or (a::b::rest) pos) (b1||b2) (WK h1 h2):=⟨(V1 ha.un hb.un).to λ_ _ _=>O0⟩
theorem pU (ha:DT X G a b1 h1):DT X G (.UnaryOp .Not a pos) b1 (Ba h1):=⟨(S0 ha.un).to λY H Q h=>by
 obtain⟨ZQ,A,B,q,f⟩:=h;obtain⟨⟨k,B1⟩,e1,f⟩:=f.bind;refine⟨ZQ,A,B,q,?_⟩;rw[e1];exact λH1 q1 x1 s1=>f H1 q1 x1 s1⟩
def TB (g1 g2:Ev->R (U×Ev)):Ev->R (U×Ev):=λB=>(gB g1 B).bind λx=>if x.1=Z then g2 x.2 else .ok (.bl M,x.2)
def Y1 (g1 g2:Ev->R (U×Ev)):Ev->R (U×Ev):=λB=>(gB g1 B).bind λx=>if x.1=Z then .ok (.bl Z,x.2) else g2 x.2
theorem Q3 {B1:Ev}{k:Bool}(h:gB g B=.ok (k,B1)):g B=.ok (.bl k,B1):=by
 unfold gB at h;cases e:g B with
 |ok y=>
  obtain⟨u,B2⟩:=y;rw[e] at h;cases u<;>simp[R.bind] at h;lia
 |exc=>rw[e] at h;simp[R.bind] at h
 |stk=>rw[e] at h;simp[R.bind] at h
theorem TC (hn:m2≠.P:=by decide)(ha:DE X G a b1 m1 g1)(hb:DE X G (.BoolOp .And (b::rest) pos) b2 m2 g2):DE X G (.BoolOp .And (a::b::rest) pos) (b1||b2) .S (TB g1 g2):=⟨(S2 ha.un hb.un).to λY H Q h=>by
 obtain⟨ZQ,A,B,q,f⟩:=h;obtain⟨⟨k,B1⟩,e1,f⟩:=f.bind;refine⟨ZQ,A,B,q,?_⟩;rw[Q3 e1];intro v H1 q1 x1 s1 vm;refine⟨k,vm.pk.bl,?_⟩;cases k with
 |true=>
  refine⟨ZQ,A,B1,q1,?_⟩;cases e2:g2 B1 with
  |ok y=>rw[e2] at f;exact λv2 H2 q2 x2 s2 yP=>f v2 H2 q2 (x1.trans x2) (two s1 s2) (yP.rp hn)
  |exc=>rw[e2] at f;exact f.elim
  |stk=>rw[e2] at f;exact f.elim
 |false=>
  exact f _ H1 q1 x1 (λz=>s1 (Ž.mp z).1) (AG.ofS gx)⟩
theorem Q4 (hn:m2≠.P:=by decide)(ha:DE X G a b1 m1 g1)(hb:DE X G (.BoolOp .Or (b::rest) pos) b2 m2 g2):DE X G (.BoolOp .Or (a::b::rest) pos) (b1||b2) .S (Y1 g1 g2):=⟨(V3 ha.un hb.un).to λY H Q h=>by
 obtain⟨ZQ,A,B,q,f⟩:=h;obtain⟨⟨k,B1⟩,e1,f⟩:=f.bind;refine⟨ZQ,A,B,q,?_⟩;rw[Q3 e1];intro v H1 q1 x1 s1 vm;refine⟨k,vm.pk.bl,?_⟩;cases k with
 |false=>
  refine⟨ZQ,A,B1,q1,?_⟩;cases e2:g2 B1 with
  |ok y=>rw[e2] at f;exact λv2 H2 q2 x2 s2 yP=>f v2 H2 q2 (x1.trans x2) (two s1 s2) (yP.rp hn)
  |exc=>rw[e2] at f;exact f.elim
  |stk=>rw[e2] at f;exact f.elim
 |true=>
  exact f _ H1 q1 x1 (λz=>s1 (Ž.mp z).1) (AG.ofS gx)⟩
def Dx {op}(ha:DE X G a b1 m1 g1):DE X G (.BoolOp op [a] pos) b1 m1 g1:=⟨S1 ha.un⟩
def gT (p:U->R U)(g:Ev->R (U×Ev)):Ev->R (U×Ev):=λB=>(g B).bind λx=>(p x.1).bind λz=>.ok (z,x.2)
def TH (K:È)(r:V->Hp->VK->Prop)(m:Md)(p:U->R U):Prop:=∀A H x u z Q,Pk K H A u x->(∀a,A a->Mu (H a))->p u=.ok z->(∀v H',aN H H'->HU K m A H H' z v->Q v H')->r x H Q
theorem O2 {r:V->Hp->VK->Prop}{p:U->R U}(hp:TH X.K r mr p){Q:VK}(h:tD X.K G b1 mr (gT p g1) Y H Q):tUn r (tD X.K G b1 m1 g1) Y H Q:=by
 obtain⟨ZQ,A,B,q,f⟩:=h;obtain⟨⟨u,B1⟩,e1,f⟩:=f.bind;obtain⟨z,e2,f⟩:=f.bind;refine⟨ZQ,A,B,q,?_⟩;rw[e1];intro v1 H1 q1 x1 s1 qN;exact hp A H1 v1 u z Q qN.pk q1.mu e2 λv H' sm vm=>f v H' (q1.same sm) (x1.trans (dP.same sm)) (sr s1 sm) (vm.e q1 sm)
def WL {op:UnaryOp}{r:V->Hp->VK->Prop}{p:U->R U}(ho:YV X (unaryOp op) r)(hp:TH X.K r mr p)(ha:DE X G a b1 m1 g1):DE X G (.UnaryOp op a pos) b1 mr (gT p g1):=⟨(We ho ha.un).to λ_ _ _=>O2 hp⟩
noncomputable def ar:Ev->R (List U×Ev):=λB=>.ok ([],B)
def ag (g:Ev->R (U×Ev))(ga:Ev->R (List U×Ev)):Ev->R (List U×Ev):=λB=>(g B).bind λx=>(ga x.2).bind λy=>.ok (x.1::y.1,y.2)
variable {p:Bool}
theorem ai:DA X G [] M p ar:=⟨mF.to λY H Q ⟨ZQ,A,B,q,f⟩=>f [] H q dP.refl (λ_=>⟨rfl,aN.refl _⟩) (by unfold Vz;split;exact rfl;exact aP.nil)⟩
theorem af (ha:DE X G e b1 m1 g1)(hr:DA X G es b2 p ga)(hm:m1=.P->(p=Z/\b2=M):=by first|exact λ_=>⟨rfl,rfl⟩|exact λh=>nomatch h)
  (hs:Î (e::es) X.env=(M,Í e X.env)::Î es X.env:=by rfl):DA X G (e::es) (b1||b2) p (ag g1 ga):=⟨(gD ha.un hr.un hs).to λY H Q h=>by
 obtain⟨ZQ,A,B,q,f⟩:=h;obtain⟨⟨u,B1⟩,e1,f⟩:=f.bind;obtain⟨⟨us,B2⟩,e2,f⟩:=f.bind;refine⟨ZQ,A,B,q,?_⟩;rw[e1];intro v1 H1 q1 x1 s1 qN;refine⟨ZQ,A,B1,q1,?_⟩;rw[e2];intro vs H2 q2 x2 s2 yP;refine f _ H2 q2 (x1.trans x2) (two s1 s2) ?_;cases p with
 |true=>
  exact⟨v1,vs,rfl,qN.later q1 x2 s2 (λz=>(hm z).2),yP⟩
 |false=>
  exact aP.cons (qN.laterS q1 x2 λz=>í (hm z).1) yP⟩
theorem Vz.pks (h:Vz K p A H us vs):Oh K H A us vs:=by
 cases p with
 |true=>exact h
 |false=>exact h.pks
def Vz.rps (h:Vz K M A H us vs):aP K H A us vs:=by
 exact h
def aU (ga:Ev->R (List U×Ev)):Ev->R (U×Ev):=λB=>(ga B).bind λx=>if x.1.length<=Å then .ok (.tup x.1,x.2) else .stk
def eZ (ga:Ev->R (List U×Ev)):Ev->R (U×Ev):=λB=>(ga B).bind λx=>if x.1.length<=Å then .ok (.lst x.1,x.2) else .stk
def cY {p:I}(h:H p=L)(o:HO):aN H (bc H p o):=λb u q=>by rw[aG (bM q h)];exact q
def xY {a:I}(h:aP K H A us vs)(n:H a=L)(l:us.length<=Å):Rp K (bc H a (.tup vs)) A (.tup us) (.ref a):=by
 exact⟨a,vs,rfl,aI,l,h.same (cY n _)⟩
theorem dh {a:I}(m:∀b,A b->Mu (H b))(h:aP K H A us vs)(n:H a=L)(l:us.length<=Å):mq K (bc H a (.lst vs)) (λb=>A b\/b=a) (.lst us) a:=
 ⟨vs,aI,l,h.re m (dP.same (cY n _)) λb z=>by
  lia⟩
theorem aM {x1}(h:DA X G es b1 M ga):DE X G (.Tuple es x1 pos) b1 .S (aU ga):=⟨(JW h.un).to λY H Q h=>by
 obtain⟨ZQ,A,B,q,f⟩:=h;obtain⟨⟨us,B1⟩,e1,f⟩:=f.bind;refine⟨ZQ,A,B,q,?_⟩;rw[e1];intro vs H1 q1 x1 s1 qN;split at f
 ·rename_i l;refine⟨by rw[<-qN.rps.length];exact l,λa n=>?_⟩;exact f _ _ (q1.same (cY n _)) (x1.trans (dP.same (cY n _))) (sr s1 (cY n _)) (AG.ofS (xY qN.rps n l))
 ·exact f.elim⟩
theorem eD (h:DA X G es b1 M ga):DE X G (.List es pos) b1 .O (eZ ga):=⟨(JX h.un).to λY H Q h=>by
 obtain⟨ZQ,A,B,q,f⟩:=h;obtain⟨⟨us,B1⟩,e1,f⟩:=f.bind;refine⟨ZQ,A,B,q,?_⟩;rw[e1];intro vs H1 q1 x1 s1 qN;split at f
 ·rename_i l;refine⟨by rw[<-qN.rps.length];exact l,λa n=>?_⟩;exact f _ _ (q1.same (cY n _)) (x1.trans (dP.same (cY n _))) (sr s1 (cY n _)) (HU.e q1 (cY n _) ⟨a,rfl,n,dh q1.mu qN.rps n l⟩)
 ·exact f.elim⟩
def iA (p:List U->R U)(ga:Ev->R (List U×Ev)):Ev->R (U×Ev):=λB=>(ga B).bind λx=>(p x.1).bind λz=>.ok (z,x.2)
def lY (K:È)(r:List V->Hp->VK->Prop)(m:Md)(p:List U->R U):Prop:=∀A H vs us z Q,Oh K H A us vs->(∀a,A a->Mu (H a))->p us=.ok z->(∀v H',aN H H'->HU K m A H H' z v->Q v H')->r vs H Q
theorem Fv {r:List V->Hp->VK->Prop}{f:List U->R U}(hp:lY X.K r mr f){Q:VK}(h:tD X.K G b1 mr (iA f ga) Y H Q):ZH r (ZM X.K G b1 p ga) Y H Q:=by
 obtain⟨ZQ,A,B,q,f⟩:=h;obtain⟨⟨us,B1⟩,e1,f⟩:=f.bind;obtain⟨z,e2,f⟩:=f.bind;refine⟨ZQ,A,B,q,?_⟩;rw[e1];intro vs H1 q1 x1 s1 qN;exact hp A H1 vs us z Q qN.pks q1.mu e2 λv H' sm vm=>f v H' (q1.same sm) (x1.trans (dP.same sm)) (sr s1 sm) (vm.e q1 sm)
def a_ {id:String}{p1:Pos}{r:List V->Hp->VK->Prop}{f:List U->R U}(hc:eS X (.builtin id) r)(hp:lY X.K r mr f)(hg:Gl X x)(hm:X.mg x=L)(hv:Ĉ x=J (.builtin id))(ha:DA X G (e::es) b1 Z ga)(hn:x≠"__name__":=by decide)(qL:(x==("__debug__":Str))=M:=by decide)
  (he:Î (e::es) X.env=(M,Í e X.env)::Î es X.env:=by rfl) (nv:(ä pos (Î es X.env)).any (·.1)=M:=by rfl):DE X G (.Call (.Name x p1) (e::es) [] pos) b1 mr (iA f ga):=⟨(AZ hc hg hm hv ha.un hn qL he nv).to λ_ _ _=>Fv hp⟩
def dH {p1:Pos}{r:List V->Hp->VK->Prop}{f:List U->R U}(hc:eS X (.type T) r)(hp:lY X.K r mr f)(hg:Gl X x)(hm:X.mg x=L)(hv:Ĉ x=J (.type T))(ha:DA X G (e::es) b1 Z ga)(hn:x≠"__name__":=by decide)(qL:(x==("__debug__":Str))=M:=by decide)(he:Î (e::es) X.env=(M,Í e X.env)::Î es X.env:=by rfl)(nv:(ä pos (Î es X.env)).any (·.1)=M:=by rfl):DE X G (.Call (.Name x p1) (e::es) [] pos) b1 mr (iA f ga):=⟨(pN hc hg hm hv ha.un hn qL he nv).to λ_ _ _=>Fv hp⟩
end
end L2
namespace L2
section
variable {A':I->Prop}{B':Ev}{b p:Bool}{m:Md}{α:Type}
theorem mq.mono (n:∀b,A' b->A b)(h:mq K H A u a):mq K H A' u a:=by
 cases u<;>(unfold mq at h |-)
 case lst us=>obtain⟨xs,q,l,z⟩:=h;exact⟨xs,q,l,z.mono n⟩
 case dct ks us=>obtain⟨xs,q,l,z⟩:=h;exact⟨xs,q,l,z.mono n⟩
 all_goals exact h.elim
theorem cU {α:Type}{l:List (Option α)}{x:Option α}{y:α}(h:(l.set i x)[j]? = J (J y)):(i=j/\x=J y)\/(i≠j/\l[j]? = J (J y)):=by
 by_cases e:i=j
 ·subst e;rw[List.getElem?_set_self'] at h;refine .inl ⟨rfl,?_⟩;cases q:l[i]? with
  |none=>rw[q] at h;cases h
  |some w=>rw[q] at h;exact Đ h
 ·rw[ē e] at h;exact .inr ⟨e,h⟩
theorem tj {α:Type}{l l':List (Option α)}{x:α}{β:Type}{k:List (Option β)}{y:Option β}{z:β}(hl:k.length=l.length)(h:(k.set i y)[i]? = J (J z)):(l.set i (J x))[i]? = J (J x):=by
 grind
theorem cz.set (r:cz K G ZQ A B Y H)(c:G.is i=M)(h:Rp K H A u v):cz K G ZQ A (B.set i (J u)) (Y.set i (J v)) H where
 slot:=λj w hj=>by
  rcases cU hj with⟨rfl,e⟩|⟨ne,e⟩
  ·cases e;refine⟨v,tj (l':=Y) r.len hj,?_⟩;rw[hZ (by rw[c];exact í)];exact h
  ·rw[ē ne];exact r.slot j w e
 dis:=λj k w w' a cj ck ne hj hk sj sk=>by
  rcases cU hj with⟨rfl,_⟩|⟨n1,e1⟩
  ·lia
  ·rcases cU hk with⟨rfl,_⟩|⟨n2,e2⟩
   ·lia
   ·rw[ē n1] at sj;rw[ē n2] at sk;exact r.dis j k w w' a cj ck ne e1 e2 sj sk
 mu:=r.mu
 sup:=r.sup
 out:=r.out
 bas:=r.bas
 io0:=λh0=>by
  obtain⟨a,b⟩:=r.io0 h0;grind
 len:=by rw[ġ,ġ];exact r.len
theorem cz.drop (r:cz K G ZQ A B Y H)(i:Nat):cz K G ZQ A (B.set i L) Y H where
 slot:=λj w hj=>by
  rcases cU hj with⟨rfl,e⟩|⟨ne,e⟩
  ·cases e
  ·exact r.slot j w e
 dis:=λj k w w' a cj ck ne hj hk sj sk=>by
  rcases cU hj with⟨rfl,e⟩|⟨n1,e1⟩
  ·cases e
  ·rcases cU hk with⟨rfl,e⟩|⟨n2,e2⟩
   ·cases e
   ·exact r.dis j k w w' a cj ck ne e1 e2 sj sk
 mu:=r.mu
 sup:=r.sup
 out:=r.out
 bas:=r.bas
 io0:=r.io0
 len:=by rw[ġ];exact r.len
theorem cz.setO (r:cz K G ZQ A B Y H)(c:G.is i=Z)(hi:G.io=Z->i≠0)(na:¬A a)(nb:ZQ.B a=L)(r':cz K G ZQ (λb=>A b\/b=a) B Y H)(h:mq K H (λb=>A b\/b=a) u a) :
  cz K G ZQ (λb=>A b\/b=a) (B.set i (J u)) (Y.set i (J (.ref a))) H where
 slot:=λj w hj=>by
  rcases cU hj with⟨rfl,e⟩|⟨ne,e⟩
  ·cases e;refine⟨.ref a,tj (l':=Y) r.len hj,?_⟩;rw[h_ c];exact⟨a,rfl,.inr rfl,nb,.inl λz=>na (r.sup a z),h⟩
  ·rw[ē ne];exact r'.slot j w e
 dis:=λj k w w' b cj ck ne hj hk sj sk=>by
  have key:∀k w',G.is k=Z->i≠k->B[k]? = J (J w')->Y[k]? ≠ J (J (.ref a)):=λk w' ck _ e q=>by
   obtain⟨b,h1,h2,_⟩:=r.own ck e;lia
  rcases cU hj with⟨rfl,e1⟩|⟨n1,e1⟩
  ·grind
  ·rcases cU hk with⟨rfl,e2⟩|⟨n2,e2⟩
   ·rw[tj (l':=Y) r.len hk] at sk;cases sk;rw[ē n1] at sj;exact key j w cj n1 e1 sj
   ·rw[ē n1] at sj;rw[ē n2] at sk;exact r.dis j k w w' b cj ck ne e1 e2 sj sk
 mu:=r'.mu
 sup:=r'.sup
 out:=r'.out
 bas:=r'.bas
 io0:=λh0=>by
  obtain⟨a,b⟩:=r.io0 h0;grind
 len:=by rw[ġ,ġ];exact r.len
theorem cz.put (r:cz K G ZQ A B Y H){w:U}(c:G.is i=Z)(h:B[i]? = J (J u))(ha:Y[i]? = J (J (.ref a)))(e:∀b o,b≠a->H b=J o->H' b=J o)(t:mq K H' A w a) :
  cz K G ZQ A (B.set i (J w)) Y H':=by
 obtain⟨a',h1,h2,h3,h4,h5⟩:=r.own c h;rw[ha] at h1;cases h1;have x:dP A H H':=λb o nb z=>e b o (λq=>nb (q▸h2)) z;exact {
  slot:=λj y hj=>by
   rcases cU hj with⟨rfl,q⟩|⟨ne,q⟩
   ·cases q;refine⟨.ref a,ha,?_⟩;rw[h_ c];exact⟨a,rfl,h2,h3,h4,t⟩
   ·obtain⟨v,s1,s2⟩:=r.slot j y q;refine⟨v,s1,?_⟩;by_cases cj:G.is j=Z
    ·rw[h_ cj] at s2 |-;obtain⟨b,e1,e2,e3,e4,e5⟩:=s2;refine⟨b,e1,e2,e3,e4,e5.re r.mu x (λb z=>.inl z) λo z=>e b o (λq'=>?_) z⟩;subst q' e1;exact r.dis i j u y b c cj ne h q ha s1
    ·rw[hZ cj] at s2 |-;exact s2.re r.mu x λb z=>.inl z
  dis:=λj k y y' b cj ck ne hj hk sj sk=>by
   have f:∀j y,(B.set i (J w))[j]? = J (J y)->∃y',B[j]? = J (J y'):=λj y hj=>by
    rcases cU hj with⟨rfl,q⟩|⟨ne,q⟩
    ·exact⟨u,h⟩
    grind
   obtain⟨y1,hj⟩:=f j y hj;obtain⟨y2,hk⟩:=f k y' hk;exact r.dis j k y1 y2 b cj ck ne hj hk sj sk
  mu:=λb z=>by
   by_cases q:b=a
   ·subst q;exact t.mu
   ·have m:=r.mu b z;obtain⟨o,z⟩:=m.ex;grind
  sup:=r.sup
  out:=r.out
  bas:=λb o z=>e b o (λq=>by lia) (r.bas b o z)
  io0:=r.io0
  len:=by rw[ġ];exact r.len}
end
def Kw (K:È)(m:Md)(A:I->Prop)(H:Hp):R U->VK->Prop
 | .ok u,Q=>∀v H',aN H H'->HU K m A H H' u v->Q v H'
 |_,_=>False
noncomputable def wQ {α:Type}(n:Nat)(g:List U->R α)(us:List U):R α:=if us.length=n then g us else .stk
def eG (K:È)(n:Nat)(f:List U->R U)(m:Md):Sp:=λvs H Q _=>∃us A,aP K H A us vs/\(∀a,A a->Mu (H a))/\Kw K m A H (wQ n f us) Q
def VA (K:È)(n:Nat)(f:List U->R (U×U)):Sp:=λvs H Q _=>∃u0 us a0 vs' A,vs=.ref a0::vs'/\A a0/\mq K H A u0 a0/\aP K H A us vs'/\(∀a,A a->Mu (H a))/\match wQ n f (u0::us) with
 | .ok (u,w)=>∀v H',(∀b o,b≠a0->H b=J o->H' b=J o)->mq K H' A w a0->Rp K H' A u v->Q v H'
 |_=>False
section
variable {e a b c:Æ}{es rest:List Æ}{pos p1:Pos}{b1 b2 b3:Bool}{m1 m2 m3 mr:Md}{g1 g2 g3:Ev->R (U×Ev)}{h1 h2:Ev->R (Bool×Ev)}{k:Nat}
def bq (n:Nat)(f:List U->R U)(ga:Ev->R (List U×Ev)):Ev->R (U×Ev):=λB=>(ga B).bind λx=>(wQ n f x.1).bind λz=>.ok (z,x.2)
theorem ao {f:List U->R U}(F:Fn X.prog X.w X.K X.mg X.base x k ps (eG X.K n f mr))(hr:cX k X.A)(ha:DA X G (e::es) b1 M ga)(hg:Gl X x:=by rfl)(qL:(x==("__debug__":Str))=M:=by decide)(he:Î (e::es) X.env=(M,Í e X.env)::Î es X.env:=by rfl)(nv:(ä pos (Î es X.env)).any (·.1)=M:=by rfl):DE X G (.Call (.Name x p1) (e::es) [] pos) b1 mr (bq n f ga):=⟨(ug F hr ha.un hg qL he nv).to λY H Q h=>by
 obtain⟨ZQ,A,B,q,f⟩:=h;obtain⟨⟨us,B1⟩,e1,f⟩:=f.bind;obtain⟨z,e2,f⟩:=f.bind;refine⟨ZQ,A,B,q,?_⟩;rw[e1];intro vs H1 q1 x1 s1 qN;rw[Ĝ];refine⟨us,A,qN.rps,q1.mu,?_⟩;rw[e2];exact λv H' sm vm=>f v H' (q1.same sm) (x1.trans (dP.same sm)) (sr s1 sm) (vm.e q1 sm)⟩
noncomputable def Kx (B:Ev)(i:Nat):Bool:=match B[i]? with
 |some (J _)=>Z
 |_=>M
theorem y9 (h:Kx B i=Z):∃u,B[i]? = J (J u):=by
 unfold Kx at h;split at h
 ·rename_i u hu;exact⟨u,hu⟩
 ·cases h
def HW (n i:Nat)(f:List U->R (U×U))(ga:Ev->R (List U×Ev)):Ev->R (U×Ev):=λB=>if Kx B i=Z then (ga B).bind λx=>match x.2[i]? with
 |some (J u0)=>(wQ n f (u0::x.1)).bind λz=>.ok (z.1,x.2.set i (J z.2))
 |_=>.stk
 else .stk
theorem ku {y:Str}{p2:Pos}{f:List U->R (U×U)}(F:Fn X.prog X.w X.K X.mg X.base x k ps (VA X.K n f))(hr:cX k X.A)(ha:DA X G es b1 M ga)(hN:X.N[i]? = J y:=by rfl)(hv:AN X.env.scope y:=by first|exact Or.inl rfl|exact Or.inr (Or.inl rfl)|exact Or.inr (Or.inr rfl))(c:G.is i=Z:=by rfl)(hd:(y==("__debug__":Str))=M:=by decide)(jX:(y==("__classdict__":Str))=M:=by decide)(hs:Î (.Name y p2::es) X.env=(M,Í (.Name y p2) X.env)::Î es X.env:=by rfl)(hg:Gl X x:=by rfl)(qL:(x==("__debug__":Str))=M:=by decide)(nv:(ä pos (Î es X.env)).any (·.1)=M:=by rfl):DE X G (.Call (.Name x p1) (.Name y p2::es) [] pos) Z .S (HW n i f ga):=⟨(ug F hr (gD (eN hN hv hd jX) ha.un hs) hg qL hs nv).to λY H Q h=>by
 obtain⟨ZQ,A,B,q,f⟩:=h;unfold HW at f;split at f
 ·rename_i hl;obtain⟨u00,hu0⟩:=y9 hl;obtain⟨a0,h0,_⟩:=q.own c hu0;obtain⟨⟨us,B1⟩,e1,f⟩:=f.bind;split at f
  ·rename_i u0 hu;obtain⟨⟨z,w⟩,e2,f⟩:=f.bind;refine⟨.ref a0,h0,ZQ,A,B,q,?_⟩;rw[e1];intro vs H1 q1 x1 s1 qN;obtain⟨a0',k1,k2,_,_,k3⟩:=q1.own c hu;rw[h0] at k1;cases k1;rw[Ĝ];refine⟨u0,us,a0,vs,A,rfl,k2,k3,qN.rps,q1.mu,?_⟩;rw[e2];intro v H' em tp rp;exact f v H' (q1.put c hu h0 em tp) (x1.trans λb o nb z=>em b o (λy=>nb (y▸k2)) z) (λz=>nomatch z) rp
  ·exact f.elim
 ·exact f.elim⟩
def Bb (K:È)(T:String)(r:V->List V->Hp->VK->Prop)(p:U->List U->R (U×U)):Prop:=∀A H a u vs us z w Q,mq K H A u a->A a->aP K H A us vs->(∀a,A a->Mu (H a))->p u us=.ok (z,w)->
 (∀v H',(∀b o,b≠a->H b=J o->H' b=J o)->mq K H' A w a->Rp K H' A z v->Q v H')->r (.ref a) vs H Q
noncomputable def y_:U->String->Bool
 | .lst _,T=>T=="list"
 |_,_=>M
theorem Dy {a:I}(h:mq K H A u a)(t:y_ u T=Z):YX K T (.ref a) H:=by
 cases u<;>(unfold y_ at t)
 case lst us=>
  obtain⟨xs,q,_⟩:=h;exact .inl ⟨by lia,xs,.inl (.inl q)⟩
 all_goals cases t
def gM (T:String)(i:Nat)(p:U->List U->R (U×U))(ga:Ev->R (List U×Ev)):Ev->R (U×Ev):=λB=>match B[i]? with
 |some (J u1)=>if y_ u1 T=Z then (ga B).bind λx=>match x.2[i]? with
  |some (J u0)=>(p u0 x.1).bind λz=>.ok (z.1,x.2.set i (J z.2))
  |_=>.stk
  else .stk
 |_=>.stk
theorem Ky {r:V->List V->Hp->VK->Prop}{p:U->List U->R (U×U)}(hp:Bb X.K T r p)(c:G.is i=Z){Q:VK}(h:tD X.K G Z .S (gM T i p ga) Y H Q) :
  ZI X.K T r (wW i) (ZM X.K G b1 M ga) Y H Q:=by
 obtain⟨ZQ,A,B,q,f⟩:=h;unfold gM at f;split at f
 ·rename_i u1 Az;split at f
  ·rename_i ht;obtain⟨a0,h0,_,_,_,t0⟩:=q.own c Az;obtain⟨⟨us,B1⟩,e1,f⟩:=f.bind;split at f
   ·rename_i u0 hu;obtain⟨⟨z,w⟩,e2,f⟩:=f.bind;refine⟨.ref a0,h0,Dy t0 ht,ZQ,A,B,q,?_⟩;rw[e1];intro vs H1 q1 x1 s1 qN;obtain⟨a0',k1,k2,_,_,k3⟩:=q1.own c hu;rw[h0] at k1;cases k1;exact hp A H1 a0 u0 vs us z w Q k3 k2 qN.rps q1.mu e2 λv H' em tp rp=>f v H' (q1.put c hu h0 em tp) (x1.trans λb o nb z=>em b o (λy=>nb (y▸k2)) z) (λz=>nomatch z) rp
   ·exact f.elim
  ·exact f.elim
 ·exact f.elim
theorem HX {r:V->List V->Hp->VK->Prop}{p:U->List U->R (U×U)}(hp:Bb X.K T r p)(c:G.is i=Z){Q:VK}(h:tD X.K G Z .S (gM T i p ar) Y H Q) :
  Wx X.K T r (wW i) Y H Q:=by
 obtain⟨ZQ,A,B,q,f⟩:=h;unfold gM at f;split at f
 ·rename_i u1 Az;split at f
  ·rename_i ht;obtain⟨a0,h0,k2,_,_,t0⟩:=q.own c Az;obtain⟨⟨us,B1⟩,e1,f⟩:=f.bind;cases e1;rw[Az] at f;obtain⟨⟨z,w⟩,e2,f⟩:=f.bind;exact⟨.ref a0,h0,Dy t0 ht,hp A H a0 u1 [] [] z w Q t0 k2 aP.nil q.mu e2 λv H' em tp rp=>f v H' (q.put c Az h0 em tp) (λb o nb z=>em b o (λy=>nb (y▸k2)) z) (λz=>nomatch z) rp⟩
  ·exact f.elim
 ·exact f.elim
def mI {id:String}{y name:Str}{p2 cO:Pos}{r:V->List V->Hp->VK->Prop}{p:U->List U->R (U×U)}(pa:PlainAttrs T)(slot:Slot T name id)(Vb:typeOf (.builtin id)=pure (.type "method_descriptor"))(hm:Og X id r)(hp:Bb X.K T r p)(ha:DA X G (e::es) b1 M ga)(hN:X.N[i]? = J y:=by rfl)(hv:AN X.env.scope y:=by first|exact Or.inl rfl|exact Or.inr (Or.inl rfl)|exact Or.inr (Or.inr rfl))(c:G.is i=Z:=by rfl)(hd:(y==("__debug__":Str))=M:=by decide)(jX:(y==("__classdict__":Str))=M:=by decide)(pd:Ħ (.Name y p2) name X.env (Í (.Name y p2) X.env)=Í (.Name y p2) X.env:=by rfl)(N2:((ä pos (Î (e::es) X.env)).all (λx=> !x.1)&&(backToKw pos (ŧ [] X.env)).all (λx=>x.1.isSome)
   && decide ((e::es).length+([]:List ĕ).length+(if ([]:List ĕ).isEmpty then 0 else 1)<30))=Z:=by rfl)(ph:(cO.endLine==pos.line)=Z:=by rfl)(hs:Î (e::es) X.env=(M,Í e X.env)::Î es X.env:=by rfl)(E_:(ä pos (Î es X.env)).any (·.1)=M:=by rfl) :
  DE X G (.Call (.Attribute (.Name y p2) name cO) (e::es) [] pos) Z .S (gM T i p ga):=⟨(QW pa slot Vb hm (eN hN hv hd jX) ha.un pd N2 ph hs E_).to λ_ _ _=>Ky hp c⟩
def O3 {id:String}{y name:Str}{p2 cO:Pos}{r:V->List V->Hp->VK->Prop}{p:U->List U->R (U×U)}(pa:PlainAttrs T)(slot:Slot T name id)(Vb:typeOf (.builtin id)=pure (.type "method_descriptor"))(hm:Og X id r)(hp:Bb X.K T r p)(hN:X.N[i]? = J y:=by rfl)(hv:AN X.env.scope y:=by first|exact Or.inl rfl|exact Or.inr (Or.inl rfl)|exact Or.inr (Or.inr rfl))(c:G.is i=Z:=by rfl)(hd:(y==("__debug__":Str))=M:=by decide)(jX:(y==("__classdict__":Str))=M:=by decide)(pd:Ħ (.Name y p2) name X.env (Í (.Name y p2) X.env)=Í (.Name y p2) X.env:=by rfl)(ph:(cO.endLine==pos.line)=Z:=by rfl) :
  DE X G (.Call (.Attribute (.Name y p2) name cO) [] [] pos) Z .S (gM T i p ar):=⟨(Tf pa slot Vb hm (eN hN hv hd jX) pd ph).to λ_ _ _=>HX hp c⟩
end
end L2
namespace L2
def ZO (K:È)(G:Gm)(sg:U->Ev->R Ev):TG:=λv Y H Q=>∃ZQ A B u,cz K G ZQ A B Y H/\Rp K H A u v/\match sg u B with
 | .ok B'=>∀Y',cz K G ZQ A B' Y' H->(∀i,G.is i=Z->Y'[i]? = Y[i]?)->Q Y' H
 |_=>False
structure DG (X:Cx)(G:Gm)(tg:Æ)(sg:U->Ev->R Ev):Prop where
 un:PG X tg (ZO X.K G sg)
def ZP (K:È)(G:Gm)(sg:List U->Ev->R Ev):JP:=λvs Y H Q=>∃ZQ A B us,cz K G ZQ A B Y H/\aP K H A us vs/\match sg us B with
 | .ok B'=>∀Y',cz K G ZQ A B' Y' H->(∀i,G.is i=Z->Y'[i]? = Y[i]?)->Q Y' H
 |_=>False
structure WO (X:Cx)(G:Gm)(tgs:List Æ)(sg:List U->Ev->R Ev):Prop where
 un:Ov X tgs (ZP X.K G sg)
noncomputable def bo (i:Nat):U->Ev->R Ev:=λu B=>.ok (B.set i (J u))
noncomputable def bO:List U->Ev->R Ev:=λus B=>match us with
 | []=>.ok B
 |_=>.stk
def aD (s:U->Ev->R Ev)(t:List U->Ev->R Ev):List U->Ev->R Ev:=λus B=>match us with
 |u::r=>(s u B).bind λB1=>t r B1
 |_=>.stk
noncomputable def cg (n:Nat)(t:List U->Ev->R Ev):U->Ev->R Ev:=λu B=>match u with
 | .tup us=>if us.length=n then t us B else .stk
 |_=>.stk
noncomputable def uu (n:Nat)(t:List U->Ev->R Ev):U->Ev->R Ev:=λu B=>match u with
 | .lst us=>if us.length=n then t us B else .stk
 |_=>.stk
section
variable {pos:Pos}
def Ov.to {es:List Æ}{t t':JP}(h:Ov X es t)(i:∀v Y H Q,t' v Y H Q->t v Y H Q):Ov X es t':=λpins s Y H v u Q I r q=>h pins s Y H v u Q I r (i _ _ _ _ q)
theorem az (hN:X.N.Nodup)(hi:X.N[i]? = J x:=by rfl)(hx:JE X.env.scope x:=by first|exact Or.inl rfl|exact Or.inr rfl)(c:G.is i=M:=by rfl)(hf:X.fn x=Z\/X.env.scope.names.lookup x=J .local:=by first|exact .inl rfl|exact .inr rfl|assumption):DG X G (.Name x pos) (bo i):=⟨(Ow hN hi hx hf).to λv Y H Q ⟨ZQ,A,B,u,q,r,f⟩=>f _ (q.set c r) λj cj=>by
  have:i≠j:=λz=>by subst z;rw[c] at cj;cases cj
  rw[ē this]⟩
theorem cV:WO X G [] bO:=⟨Ox.to λvs Y H Q h00=>by
 obtain⟨ZQ,A,B,us,q,r,f⟩:=h00;cases us with
 |nil=>exact⟨r,f Y q λ_ _=>rfl⟩
 |cons=>exact f.elim⟩
theorem aR {e:Æ}{es:List Æ}{s:U->Ev->R Ev}{t:List U->Ev->R Ev}(h1:DG X G e s)(h2:WO X G es t)
  (hs:(Č (e::es) X.env).map (·.2)=assign e X.env::(Č es X.env).map (·.2):=by rfl):WO X G (e::es) (aD s t):=⟨(JQ h1.un h2.un hs).to λvs Y H Q h00=>by
 obtain⟨ZQ,A,B,us,q,r,f⟩:=h00;unfold aD at f;cases us with
 |nil=>exact f.elim
 |cons u us=>
  obtain⟨v,vr,rfl,r1,r2⟩:=r;dsimp only at f;refine⟨v,vr,rfl,ZQ,A,B,u,q,r1,?_⟩;cases e1:s u B with
  |ok B1=>
   rw[e1] at f;simp only[R.bind] at f;intro Y1 q1 o1;refine⟨ZQ,A,B1,us,q1,r2,?_⟩;cases e2:t us B1 with
   |ok B2=>rw[e2] at f;exact λY2 q2 o2=>f Y2 q2 λi c=>(o2 i c).trans (o1 i c)
   |exc=>rw[e2] at f;exact f.elim
   |stk=>rw[e2] at f;exact f.elim
  |exc=>rw[e1] at f;exact f.elim
  |stk=>rw[e1] at f;exact f.elim⟩
theorem e_ {es:List Æ}{k:Nat}{t:List U->Ev->R Ev}(hc:X.calm=Z)(h:WO X G es t)(hn:(Č es X.env).length=n:=by rfl)(N1:(Č es X.env).findIdx? (·.1)=L:=by rfl):DG X G (.Tuple es k pos) (cg n t):=⟨(S4 hc h.un hn N1).to λv Y H Q h00=>by
 obtain⟨ZQ,A,B,u,q,r,f⟩:=h00;unfold cg at f;cases u with
 |tup us=>
  obtain⟨a,xs,rfl,sq,l,rs⟩:=r;dsimp only at f;by_cases hl:us.length=n
  ·rw[h_ hl] at f;exact⟨a,xs,rfl,gR.of sq,by rw[<-rs.length];exact hl,ZQ,A,B,us,q,rs,f⟩
  ·rw[hZ hl] at f;exact f.elim
 |_=>exact f.elim⟩
theorem Kz {es:List Æ}{k:Nat}{t:List U->Ev->R Ev}(hc:X.calm=Z)(h:WO X G es t)(hn:(Č es X.env).length=n:=by rfl)(N1:(Č es X.env).findIdx? (·.1)=L:=by rfl):DG X G (.Tuple es k pos) (uu n t):=⟨(Tu hc h.un hn N1).to λv Y H Q h00=>by
 obtain⟨ZQ,A,B,u,q,r,f⟩:=h00;unfold uu at f;cases u with
 |lst us=>
  obtain⟨a,xs,rfl,na,sq,l,rs⟩:=r;dsimp only at f;by_cases hl:us.length=n
  ·rw[h_ hl] at f;exact⟨a,xs,rfl,fG.of sq,by rw[<-rs.length];exact hl,ZQ,A,B,us,q,rs,f⟩
  ·rw[hZ hl] at f;exact f.elim
 |_=>exact f.elim⟩
end
def VMr (K:È)(ZQ:Pkg)(m:Md)(H:Hp)(u:U)(v:V):Prop:=match m with
 | .S=>Rp K H ZQ.A0 u v
 | .O=>∃a,v=.ref a/\ZQ.B a=L/\¬ZQ.A0 a/\mq K H (λb=>ZQ.A0 b\/b=a) u a
 | .P=>False
def uv (K:È)(G:Gm)(ZQ:Pkg)(m:Md):SR->lX->Prop
 | .nx B',D=>∀A' Y' H',cz K G ZQ A' B' Y' H'->D.nx Y' H'
 | .bk B',D=>∀A' Y' H',cz K G ZQ A' B' Y' H'->D.bk Y' H'
 | .ct B',D=>∀A' Y' H',cz K G ZQ A' B' Y' H'->D.ct Y' H'
 | .rt u B',D=>∀A' Y' H' v,cz K G ZQ A' B' Y' H'->VMr K ZQ m H' u v->D.rt v H'
 | .exc _ _,_=>∀H',(∀a o,ZQ.B a=J o->H' a=J o)->G.W H'
 | .stk,_=>False
def VB (K:È)(G:Gm)(m:Md)(g:Ev->SR):TS:=λD Y H=>∃ZQ A B,cz K G ZQ A B Y H/\uv K G ZQ m (g B) D
structure DS (X:Cx)(G:Gm)(m:Md)(st:Ë)(g:Ev->SR):Prop where
 un:PS X st (VB X.K G m g)
structure Bc (X:Cx)(G:Gm)(m:Md)(st:List Ë)(g:Ev->SR):Prop where
 un:tX X st (VB X.K G m g)
noncomputable def cA:Ev->SR:=.nx
noncomputable def aJ (g1 g2:Ev->SR):Ev->SR:=λB=>match g1 B with
 | .nx B'=>g2 B'
 |r=>r
noncomputable def SR.of {α:Type}:R α->(α->SR)->SR
 | .ok a,f=>f a
 |_,_=>.stk
section
variable {m:Md}{α:Type}
theorem uv.of {x:R α}{k:α->SR}{D:lX}(f:uv K G ZQ m (SR.of x k) D):∃a,x=.ok a/\uv K G ZQ m (k a) D:=by
 cases x with
 |ok a=>exact⟨a,rfl,f⟩
 |exc=>exact f.elim
 |stk=>exact f.elim
end
section
variable {e a b c:Æ}{YE rest:List Ë}{es:List Æ}{pos p1:Pos}{b1 b2 b3:Bool}{m m1 m2 m3 mr:Md}{g1 g2 g3:Ev->R (U×Ev)}{h1 h2:Ev->R (Bool×Ev)}{s1 s2:Ev->SR}
def bt:Bc X G m [] cA:=⟨sZ.to λD Y H ⟨ZQ,A,B,q,f⟩=>f A Y H q⟩
def ax (h:DS X G m st s1):Bc X G m [st] s1:=⟨Ff h.un⟩
theorem aq (ha:DS X G m st s1)(hb:Bc X G m rest s2):Bc X G m (st::rest) (aJ s1 s2):=⟨(nC ha.un hb.un).to λD Y H h00=>by
 obtain⟨ZQ,A,B,q,f⟩:=h00;refine⟨ZQ,A,B,q,?_⟩;unfold aJ at f;cases e:s1 B with
 |nx B1=>rw[e] at f;exact λA1 Y1 H1 q1=>⟨ZQ,A1,B1,q1,f⟩
 |rt=>rw[e] at f;exact f
 |bk=>rw[e] at f;exact f
 |ct=>rw[e] at f;exact f
 |exc=>rw[e] at f;exact f
 |stk=>rw[e] at f;exact f⟩
def uw (g:Ev->R (U×Ev)):Ev->SR:=λB=>SR.of (g B) λx=>.nx x.2
theorem nQ (h:DE X G e b1 m1 g1)(hs:Ē e L pos.line X.env=pure M:=by rfl):DS X G m (.Expr e pos) (uw g1):=⟨(Fg h.un hs).to λD Y H h00=>by
 obtain⟨ZQ,A,B,q,f⟩:=h00;obtain⟨⟨u,B1⟩,e1,f⟩:=f.of;refine⟨ZQ,A,B,q,?_⟩;rw[e1];exact λv H1 q1 _ _ _=>f A Y H1 q1⟩
def bb (g:Ev->R (U×Ev)):Ev->SR:=λB=>SR.of (g B) λx=>.rt x.1 x.2
theorem aQ (h:DE X G e b1 m1 g1)(hn:m1≠.P:=by decide):DS X G .S (.Return (J e) pos) (bb g1):=⟨(yS h.un).to λD Y H h00=>by
 obtain⟨ZQ,A,B,q,f⟩:=h00;obtain⟨⟨u,B1⟩,e1,f⟩:=f.of;refine⟨ZQ,A,B,q,?_⟩;rw[e1];exact λv H1 q1 _ _ vm=>f A Y H1 v q1 ((vm.rp hn).mono q1.sup)⟩
theorem fb (h:DE X G e b1 .O g1):DS X G .O (.Return (J e) pos) (bb g1):=⟨(yS h.un).to λD Y H h00=>by
 obtain⟨ZQ,A,B,q,f⟩:=h00;obtain⟨⟨u,B1⟩,e1,f⟩:=f.of;refine⟨ZQ,A,B,q,?_⟩;rw[e1];intro v H1 q1 _ _ vm;obtain⟨a,rfl,na,nb,_,t⟩:=vm;exact f A Y H1 _ q1 ⟨a,rfl,nb,λz=>na (q1.sup a z),t.mono λb z=>z.imp (q1.sup b) id⟩⟩
theorem nR (hm:m≠.P:=by decide)(hi:G.io=Z->i≠0)(hN:X.N[i]? = J x:=by rfl)(hv:AN X.env.scope x:=by first|exact Or.inl rfl|exact Or.inr (Or.inl rfl)|exact Or.inr (Or.inr rfl))(hd:(x==("__debug__":Str))=M:=by decide)(jX:(x==("__classdict__":Str))=M:=by decide)(c:G.is i=Z:=by rfl):DS X G m (.Return (J (.Name x p1)) pos) (bb (ah i)):=⟨(yS (eN hN hv hd jX)).to λD Y H h00=>by
 obtain⟨ZQ,A,B,q,f⟩:=h00;obtain⟨⟨u,B1⟩,e1,f⟩:=f.of;unfold ah at e1;split at e1
 ·rename_i u' hu;cases e1;obtain⟨a,h1,h2,h3,h4,h5⟩:=q.own c hu;have na:¬ZQ.A0 a:=by
   lia
  refine⟨.ref a,h1,f A Y H _ q ?_⟩;cases m with
  |S=>exact h5.rp q.sup na
  |O=>exact⟨a,rfl,h3,na,h5.mono λb z=>by
    rcases z with z|z
    ·exact q.sup b z
    lia⟩
  |P=>lia
 ·cases e1⟩
def ba (i:Nat)(g:Ev->R (U×Ev)):Ev->SR:=λB=>SR.of (g B) λx=>.nx (x.2.set i (J x.1))
theorem ux (c:G.is i=M)(hn:m1≠.P)(hi:∀Y H Q,tD X.K G b1 m1 g1 Y H Q->te Y H Q){D:lX}(h:VB X.K G m (ba i g1) D Y H):Hq te (xD i) D Y H:=by
 obtain⟨ZQ,A,B,q,f⟩:=h;obtain⟨⟨u,B1⟩,e1,f⟩:=f.of;refine hi _ _ _ ⟨ZQ,A,B,q,?_⟩;rw[e1];exact λv H1 q1 _ _ vm=>f A _ H1 (q1.set c (vm.rp hn))
theorem xZ (c:G.is i=Z)(h0:G.io=Z->i≠0)(hi:∀Y H Q,tD X.K G b1 .O g1 Y H Q->te Y H Q){D:lX}(h:VB X.K G m (ba i g1) D Y H):Hq te (xD i) D Y H:=by
 obtain⟨ZQ,A,B,q,f⟩:=h;obtain⟨⟨u,B1⟩,e1,f⟩:=f.of;refine hi _ _ _ ⟨ZQ,A,B,q,?_⟩;rw[e1];intro v H1 q1 _ _ vm;obtain⟨a,rfl,na,nb,r,t⟩:=vm;exact f _ _ H1 (q1.setO c h0 na nb r t)
def aY (hN:X.N.Nodup)(h:DE X G e b1 m1 g1)(hi:X.N[i]? = J x:=by rfl)(hx:JE X.env.scope x:=by first|exact Or.inl rfl|exact Or.inr rfl)(c:G.is i=M:=by rfl)(hn:m1≠.P:=by decide)(hs:Ē e (J (.Name x p1)) pos.line X.env=pure M:=by rfl)(hf:X.fn x=Z\/X.env.scope.names.lookup x=J .local:=by first|exact .inl rfl|exact .inr rfl|assumption):DS X G m (.Assign [.Name x p1] e pos) (ba i g1):=⟨(C3 hN hi hx h.un hs hf).to λ_ _ _=>ux c hn λ_ _ _ h=>h⟩
def dQ (hN:X.N.Nodup)(h:DE X G e b1 .O g1)(h0:G.io=Z->i≠0:=by decide)(hi:X.N[i]? = J x:=by rfl)(hx:JE X.env.scope x:=by first|exact Or.inl rfl|exact Or.inr rfl)(c:G.is i=Z:=by rfl)(hs:Ē e (J (.Name x p1)) pos.line X.env=pure M:=by rfl)(hf:X.fn x=Z\/X.env.scope.names.lookup x=J .local:=by first|exact .inl rfl|exact .inr rfl|assumption):DS X G m (.Assign [.Name x p1] e pos) (ba i g1):=⟨(C3 hN hi hx h.un hs hf).to λ_ _ _=>xZ c h0 λ_ _ _ h=>h⟩
def KA (sg:U->Ev->R Ev)(g:Ev->R (U×Ev)):Ev->SR:=λB=>SR.of (g B) λx=>SR.of (sg x.1 x.2) .nx
theorem KC (h:DE X G e b1 m1 g1)(hg:DG X G tg sg)(hn:m1≠.P:=by decide)(hs:swapsWithSole [tg] e pos.line X.env=pure M:=by rfl)(hw:swappedStores [tg] e X.env=pure L:=by rfl)(h1:(Č [tg] X.env).map (·.2)=[assign tg X.env]:=by rfl):DS X G m (.Assign [tg] e pos) (KA sg g1):=⟨(C2 h.un hg.un hs hw h1).to λD Y H h00=>by
 obtain⟨ZQ,A,B,q,f⟩:=h00;obtain⟨⟨u,B1⟩,e1,f⟩:=f.of;obtain⟨B2,e2,f⟩:=f.of;refine⟨ZQ,A,B,q,?_⟩;rw[e1];intro v H1 q1 _ _ vm;refine⟨ZQ,A,B1,u,q1,vm.rp hn,?_⟩;rw[e2];exact λY' q' _=>f A Y' H1 q'⟩
def pE (h:Ev->R (Bool×Ev))(s1 s2:Ev->SR):Ev->SR:=λB=>SR.of (h B) λx=>if x.1=Z then s1 x.2 else s2 x.2
theorem c9 {c:Æ}{a b:List Ë}(hc:DT X G c b1 h1)(ha:Bc X G m a s1)(hb:Bc X G m b s2):DS X G m (.If c a b pos) (pE h1 s1 s2):=⟨(JO hc.un ha.un hb.un).to λD Y H h00=>by
 obtain⟨ZQ,A,B,q,f⟩:=h00;obtain⟨⟨k,B1⟩,e1,f⟩:=f.of;refine⟨ZQ,A,B,q,?_⟩;rw[e1];intro H1 q1 _ _;cases k with
 |true=>exact⟨ZQ,A,B1,q1,f⟩
 |false=>exact⟨ZQ,A,B1,q1,f⟩⟩
def jz (h:Ev->R (Bool×Ev))(s:Ev->SR):Nat->Ev->SR
 |0,_=>.stk
 |n+1,B=>SR.of (h B) λx=>if x.1=Z then match s x.2 with
   | .nx B2=>jz h s n B2
   | .ct B2=>jz h s n B2
   | .bk B2=>.nx B2
   |r=>r
  else .nx x.2
theorem Be (hp:ř (Ä X.prog X.w) X.A X.env X.xe)(hc:DT X G c b1 h1)(hb:Bc X G m body s1):DS X G m (.While c body [] pos) (jz h1 s1 n):=⟨(AR hp hc.un hb.un).to λD Y H h00=>by
 obtain⟨ZQ,A,B,q,f⟩:=h00;refine⟨λk Y H=>∃A B,cz X.K G ZQ A B Y H/\uv X.K G ZQ m (jz h1 s1 k B) D,⟨n,A,B,q,f⟩,?_⟩;rintro k Y H ⟨A,B,q,f⟩;cases k with
 |zero=>exact f.elim
 |succ k=>
  obtain⟨⟨t,B1⟩,e1,f⟩:=f.of;refine⟨ZQ,A,B,q,?_⟩;rw[e1];intro H1 q1 _ _;cases t with
  |false=>exact f A Y H1 q1
  |true=>
   refine⟨λY H=>∃A B,cz X.K G ZQ A B Y H/\uv X.K G ZQ m _ D,λY' H' z=>⟨k,ζ k,z⟩,ZQ,A,B1,q1,?_⟩;cases e2:s1 B1 with
   |nx B2=>rw[e2] at f;exact λA2 Y2 H2 q2=>⟨A2,B2,q2,f⟩
   |ct B2=>rw[e2] at f;exact λA2 Y2 H2 q2=>⟨A2,B2,q2,f⟩
   |bk B2=>rw[e2] at f;exact f
   |rt=>rw[e2] at f;exact f
   |exc=>rw[e2] at f;exact f
   |stk=>rw[e2] at f;exact f⟩
end
end L2
namespace L2
def Wk (K:È)(p:Bool)(A:I->Prop)(us:List U)(Jqq:It)(H1:Hp):Prop:=us.length<=Å/\
 ∀H A',(if p=Z then aN H1 H else dP A H1 H)->(∀b,A' b->A b\/H1 b=L)->(∀(i:Nat) (u:U),us[i]? = J u->Jqq.go i H/\∀x H',Jqq.yld i H x H'->aN H H'/\Rp K H' A' u x)/\Jqq.stop us.length H
def Y2 (K:È)(G:Gm)(b p:Bool)(gi:Ev->R (List U×Ev)):TI:=λY H R=>∃ZQ A B,cz K G ZQ A B Y H/\match gi B with
 | .ok (us,B')=>∀Jqq H1,cz K G ZQ A B' Y H1->dP A H H1->(b=M->B'=B/\aN H H1)->Wk K p A us Jqq H1->R Jqq H1
 |_=>False
structure DI (X:Cx)(G:Gm)(tg iter:Æ)(b p:Bool)(gi:Ev->R (List U×Ev)):Prop where
 un:PI X tg iter (Y2 X.K G b p gi)
section
variable {e a b c:Æ}{es:List Æ}{pos p1:Pos}{b1 b2 b3:Bool}{m m1 m2 m3 mr:Md}{g1 g2 g3:Ev->R (U×Ev)}{h1 h2:Ev->R (Bool×Ev)}{s1 s2:Ev->SR}
def PI.to {t t':TI}(h:PI X tg e t)(i:∀Y H Q,t' Y H Q->t Y H Q):PI X tg e t':=λpins s Y H Q I q=>h pins s Y H Q I (i _ _ _ q)
theorem PI.or {t t':TI}(h:PI X tg e t)(h':PI X tg e t'):PI X tg e (λY H R=>t Y H R\/t' Y H R):=λpins s Y H Q I q=>by
 rcases q with q|q
 ·exact h pins s Y H Q I q
 ·exact h' pins s Y H Q I q
noncomputable def ZR:Md->Bool
 | .P=>Z
 |_=>M
def d_ (g:Ev->R (U×Ev)):Ev->R (List U×Ev):=λB=>(g B).bind λx=>match x.1 with
 | .lst us=>.ok (us,x.2)
 | .tup us=>.ok (us,x.2)
 | .scr us=>.ok (us,x.2)
 |_=>.stk
theorem O4 (q:cz K G ZQ A B Y H1)(h:AG K G ZQ m1 A B Y H1 (.lst us) v):∃a,v=.ref a/\(∃xs,fG K H1 a xs)/\Wk K (ZR m1) A us (YU K a) H1:=by
 have hp:=h.pk;obtain⟨a,xs,rfl,rd,l,rs⟩:=hp;refine⟨a,rfl,⟨xs,fG.of rd⟩,l,λH A' hs ha=>?_⟩;have st:H a=J (.lst xs)/\∀(i:Nat) (u:U),us[i]? = J u->∃x,xs[i]? = J x/\Rp K H A' u x:=by
  cases hm:ZR m1 with
  |true=>
   rw[hm] at hs;refine⟨hs a _ rd,λi u hu=>?_⟩;obtain⟨x,h1,h2⟩:=rs.get hu;exact⟨x,h1,h2.re q.mu (dP.same hs) ha⟩
  |false=>
   rw[hm] at hs;have hn:m1≠.P:=λz=>by subst z;cases hm
   have hr:=h.rp hn;obtain⟨a',xs',e,na,rd',_,rs'⟩:=hr;cases e;refine⟨hs a _ na rd,λi u hu=>?_⟩;obtain⟨x,h1,h2⟩:=rs.get hu;exact⟨x,h1,h2.re q.mu hs ha⟩
 obtain⟨rd2,get⟩:=st;refine⟨λi u hu=>?_,⟨xs,fG.of rd2,by rw[<-rs.length];exact Ñ _⟩⟩;obtain⟨x,h1,h2⟩:=get i u hu;refine⟨⟨xs,x,fG.of rd2,h1⟩,λy H' yl=>?_⟩;obtain⟨e,yl⟩:=yl;simp_all[fG.of,aN.refl]
theorem TM {p:Bool}(q:cz K G ZQ A B Y H1)(h:Pk K H1 A (.tup us) v):∃a,v=.ref a/\(∃xs,gR K H1 a xs)/\Wk K p A us (ZC K a) H1:=by
 obtain⟨a,xs,rfl,sq,l,rs⟩:=h;refine⟨a,rfl,⟨xs,gR.of sq⟩,l,λH A' hs ha=>?_⟩;have ex:dP A H1 H:=by
  cases p with
  |true=>exact dP.same hs
  |false=>exact hs
 have Vl:gR K H a xs:=gR.of (ex a _ (λz=>by have:=q.mu a z;rw[sq] at this;exact this) sq);refine⟨λi u hu=>?_,⟨xs,Vl,by rw[<-rs.length];exact Ñ _⟩⟩;obtain⟨x,h1,h2⟩:=rs.get hu;refine⟨⟨xs,x,Vl,h1⟩,λy H' yl=>?_⟩;obtain⟨e,yl⟩:=yl;have e2:=yl xs Vl;rw[h1] at e2;cases e2;subst e;exact⟨aN.refl _,h2.re q.mu ex ha⟩
theorem TN {p:Bool}(q:cz K G ZQ A B Y H1)(h:Pk K H1 A (.scr us) v):∃a,v=.ref a/\(∃xs,fG K H1 a xs)/\Wk K p A us (YU K a) H1:=by
 obtain⟨a,xs,rfl,sq,l,rs⟩:=h;refine⟨a,rfl,⟨xs,sq.sq⟩,l,λH A' hs ha=>?_⟩;have ex:dP A H1 H:=by
  cases p with
  |true=>exact dP.same hs
  |false=>exact hs
 have Vl:=(sq.to λo y w=>ex a _ (λz=>by have:=q.mu a z;rw[w] at this;exact this) w).sq;refine⟨λi u hu=>?_,⟨xs,Vl,by rw[<-rs.length];exact Ñ _⟩⟩;obtain⟨x,h1,h2⟩:=rs.get hu;refine⟨⟨xs,x,Vl,h1⟩,λy H' yl=>?_⟩;obtain⟨e,yl⟩:=yl;have e2:=yl xs Vl;rw[h1] at e2;cases e2;subst e;exact⟨aN.refl _,h2.re q.mu ex ha⟩
theorem bC (h:DE X G e b1 m1 g1):DI X G tg e b1 (ZR m1) (d_ g1):=⟨((Oy h.un).or (S6 h.un)).to λY H RR h00=>by
 obtain⟨ZQ,A,B,q,f⟩:=h00;unfold d_ at f;cases e1:g1 B with
 |stk=>rw[e1] at f;exact f.elim
 |exc=>rw[e1] at f;exact f.elim
 |ok y=>
  obtain⟨u,B1⟩:=y;rw[e1] at f;cases u with
  |lst us=>
   refine .inl ⟨ZQ,A,B,q,?_⟩;rw[e1];intro v H1 q1 x1 s1 vm;obtain⟨a,e,l,wk⟩:=O4 q1 vm;exact⟨a,e,l,f _ H1 q1 x1 s1 wk⟩
  |tup us=>
   refine .inr ⟨ZQ,A,B,q,?_⟩;rw[e1];intro v H1 q1 x1 s1 vm;obtain⟨a,e,l,wk⟩:=TM q1 vm.pk;exact⟨a,e,l,f _ H1 q1 x1 s1 wk⟩
  |scr us=>
   refine .inl ⟨ZQ,A,B,q,?_⟩;rw[e1];intro v H1 q1 x1 s1 vm;obtain⟨a,e,l,wk⟩:=TN q1 vm.pk;exact⟨a,e,l,f _ H1 q1 x1 s1 wk⟩
  |_=>exact f.elim⟩
noncomputable def bK (lo:Int)(n:Nat):List U:=(ā n).map λi=>.int (lo+(i:Nat))
theorem Bf {lo:Int}{p:Bool}(h:n<=Å):Wk K p A (bK lo n) (V9 lo n) H1:=by
 have hl:(bK lo n).length=n:=by unfold bK;rw[Ê,Ş]
 refine⟨by rw[hl];exact h,λH A' _ _=>⟨λi u hu=>?_,by rw[hl];exact Ñ _⟩⟩;unfold bK at hu;rw[ç] at hu;cases e:(ā n)[i]? with
 |none=>rw[e] at hu;cases hu
 |some j=>
  rw[e] at hu;obtain⟨l1,l2⟩:=é.mp e;rw[Ş] at l1;rw[List.getElem_range] at l2;subst l2;cases hu;refine⟨l1,λx H' y=>?_⟩;obtain⟨rfl,rfl⟩:=y;exact⟨aN.refl _,df⟩
def mw (ga:Ev->R (List U×Ev)):Ev->R (List U×Ev):=λB=>(ga B).bind λx=>match x.1 with
 | [.int j]=>if -1000000<=j/\j<=1000000 then .ok (bK 0 j.toNat,x.2) else .stk
 |_=>.stk
def Fw (ga:Ev->R (List U×Ev)):Ev->R (List U×Ev):=λB=>(ga B).bind λx=>match x.1 with
 | [.int i,.int j]=>if (-1000000<=i/\i<=1000000)/\(-1000000<=j/\j<=1000000) then .ok (bK i (j-i).toNat,x.2) else .stk
 |_=>.stk
theorem gO {a:Æ}(ha:DA X G [a] b1 M ga)(hm:X.mg "range"=L)(hg:Gl X "range":=by rfl)(hs:Î [a] X.env=[(M,Í a X.env)]:=by rfl):DI X G tg (.Call (.Name "range" p1) [a] [] pos) b1 M (mw ga):=⟨(Hs hg hm ha.un hs).to λY H RR h00=>by
 obtain⟨ZQ,A,B,q,f⟩:=h00;unfold mw at f;cases e1:ga B with
 |stk=>rw[e1] at f;exact f.elim
 |exc=>rw[e1] at f;exact f.elim
 |ok y=>
  obtain⟨us,B1⟩:=y;rw[e1] at f;dsimp only[L2.R.bind] at f;refine⟨ZQ,A,B,q,?_⟩;rw[e1];intro vs H1 q1 x1 s1 vm;split at f
  ·rename_i Om B' e2;split at e2
   ·rename_i j;split at e2
    ·cases e2;have r:=vm.rps;obtain⟨v,vr,rfl,r1,r2⟩:=r;subst r2;subst r1;exact⟨j,rfl,by lia,by lia,f _ H1 q1 x1 s1 (Bf (by have:Å=16777216:=rfl;lia))⟩
    ·cases e2
   ·cases e2
  lia⟩
theorem HY {a b:Æ}(ha:DA X G [a,b] b1 M ga)(hm:X.mg "range"=L)(hg:Gl X "range":=by rfl)(hs:Î [a,b] X.env=[(M,Í a X.env),(M,Í b X.env)]:=by rfl)(pG:Î [b] X.env=[(M,Í b X.env)]:=by rfl):DI X G tg (.Call (.Name "range" p1) [a,b] [] pos) b1 M (Fw ga):=⟨(Ht hg hm ha.un hs pG).to λY H RR h00=>by
 obtain⟨ZQ,A,B,q,f⟩:=h00;unfold Fw at f;cases e1:ga B with
 |stk=>rw[e1] at f;exact f.elim
 |exc=>rw[e1] at f;exact f.elim
 |ok y=>
  obtain⟨us,B1⟩:=y;rw[e1] at f;dsimp only[L2.R.bind] at f;refine⟨ZQ,A,B,q,?_⟩;rw[e1];intro vs H1 q1 x1 s1 vm;split at f
  ·rename_i Om B' e2;split at e2
   ·rename_i i j;split at e2
    ·cases e2;have r:=vm.rps;obtain⟨v,vr,rfl,r1,r2⟩:=r;obtain⟨v',vr',rfl,r3,r4⟩:=r2;subst r4;subst r1 r3;exact⟨i,j,rfl,by lia,f _ H1 q1 x1 s1 (Bf (by have:Å=16777216:=rfl;lia))⟩
    ·cases e2
   ·cases e2
  lia⟩
def gU (sg:U->Ev->R Ev)(s:Ev->SR):List U->Ev->SR
 | [],B=>.nx B
 |u::us,B=>SR.of (sg u B) λB1=>match s B1 with
   | .nx B2=>gU sg s us B2
   | .ct B2=>gU sg s us B2
   | .bk B2=>.nx B2
   |r=>r
def ff (gi:Ev->R (List U×Ev))(sg:U->Ev->R Ev)(s:Ev->SR):Ev->SR:=λB=>SR.of (gi B) λx=>gU sg s x.1 x.2
open Classical in
noncomputable def Pkg.lp (ZQ:Pkg)(A:I->Prop)(H:Hp):Pkg:={ZQ with B:=λb=>if A b/\ZQ.B b=L then L else H b}
def lA {b:I}(h1:A b)(h2:ZQ.B b=L):(ZQ.lp A H).B b=L:=by
 simp_all[Pkg.lp,h_]
def iD {b:I}(h:¬(A b/\ZQ.B b=L)):(ZQ.lp A H).B b=H b:=by
 unfold Pkg.lp;exact hZ h
def uy {b:I}(h:(ZQ.lp A H).B b=L):(A b/\ZQ.B b=L)\/H b=L:=by
 by_cases c:A b/\ZQ.B b=L
 ·exact .inl c
 simp_all[iD]
theorem cz.lp (q:cz K G ZQ A B Y H):cz K G (ZQ.lp A H) A B Y H where
 slot:=λi u h=>by
  obtain⟨v,h1,h2⟩:=q.slot i u h;refine⟨v,h1,?_⟩;by_cases c:G.is i=Z
  ·rw[h_ c] at h2 |-;obtain⟨a,e1,e2,e3,e4,e5⟩:=h2;exact⟨a,e1,e2,lA e2 e3,e4,e5⟩
  ·rw[hZ c] at h2 |-;exact h2
 dis:=q.dis
 mu:=q.mu
 sup:=q.sup
 out:=λa h=>(q.out a h).imp id λz=>lA h z
 bas:=λa o h=>by
  by_cases c:A a/\ZQ.B a=L
  ·simp_all[lA]
  simp_all[iD]
 io0:=q.io0
 len:=q.len
theorem cz.unlp {A':I->Prop}{B':Ev}{Y':St}(q:cz K G ZQ A B Y H)(q':cz K G (ZQ.lp A H) A' B' Y' H'):cz K G ZQ A' B' Y' H':=by
 have sub:∀a,(ZQ.lp A H).B a=L->ZQ.B a=L:=λa h=>by
  rcases uy h with z|h
  ·exact z.2
  ·cases e:ZQ.B a with
   |none=>rfl
   |some o=>rw[q.bas a o e] at h;cases h
 exact {
  slot:=λi u h=>by
   obtain⟨v,h1,h2⟩:=q'.slot i u h;refine⟨v,h1,?_⟩;by_cases c:G.is i=Z
   ·rw[h_ c] at h2 |-;obtain⟨a,e1,e2,e3,e4,e5⟩:=h2;exact⟨a,e1,e2,sub a e3,e4,e5⟩
   ·rw[hZ c] at h2 |-;exact h2
  dis:=q'.dis
  mu:=q'.mu
  sup:=q'.sup
  out:=λa h=>(q'.out a h).imp id (sub a)
  bas:=λa o h=>q'.bas a o (by
   rw[iD (λz=>by lia)];exact q.bas a o h)
  io0:=q'.io0
  len:=q'.len}
theorem uv.lp {r:SR}{D:lX}(q:cz K G ZQ A B Y H)(f:uv K G ZQ m r D):uv K G (ZQ.lp A H) m r D:=by
 cases r with
 |nx=>exact λA' Y' H' q'=>f A' Y' H' (q.unlp q')
 |bk=>exact λA' Y' H' q'=>f A' Y' H' (q.unlp q')
 |ct=>exact λA' Y' H' q'=>f A' Y' H' (q.unlp q')
 |rt u B'=>
  intro A' Y' H' v q' vm;refine f A' Y' H' v (q.unlp q') ?_;cases m with
  |S=>exact vm
  |P=>exact vm
  |O=>
   obtain⟨a,e,nb,na,t⟩:=vm;refine⟨a,e,?_,na,t⟩;rcases uy nb with z|h
   ·exact z.2
   ·cases e:ZQ.B a with
    |none=>rfl
    |some o=>rw[q.bas a o e] at h;cases h
 |exc=>exact λH' hb=>f H' λa o h=>hb a o (by
   rw[iD (λz=>by lia)];exact q.bas a o h)
 |stk=>exact f.elim
theorem cB {gi:Ev->R (List U×Ev)}(hp:ř (Ä X.prog X.w) X.A X.env X.xe)(hc:X.calm=Z)(hi:DI X G tg iter b1 M gi)(hg:DG X G tg sg)(hb:Bc X G m body s1)(hs:∀x,ĭ iter X.env x=pure x:=by intro _;rfl):DS X G m (.For tg iter body [] pos) (ff gi sg s1):=⟨(Fs hp hc hi.un hg.un hb.un hs).to λD Y H h00=>by
 obtain⟨ZQ,A,B,q,f⟩:=h00;obtain⟨⟨us,B1⟩,e1,f⟩:=f.of;refine⟨ZQ,A,B,q,?_⟩;rw[e1];intro Jqq H1 q1 x1 AB wk;obtain⟨hz,wk⟩:=wk;refine⟨λi k Y H=>i+k=us.length/\∃A' B',cz X.K G _ A' B' Y H/\uv X.K G _ m (gU sg s1 (us.drop i) B') D,⟨us.length,by lia,A,B1,q1.lp,by exact f.lp q1⟩,?_⟩;rintro i k Y H ⟨hk,A',B',q',f'⟩;have ex:dP A H1 H:=λb o nb z=>q'.bas b o (by
  simp_all[iD])
 have nw:∀b,A' b->A b\/H1 b=L:=λb z=>by
  rcases q'.out b z with y|y
  ·exact .inl (q1.sup b y)
  ·rcases uy y with w|h
   ·exact .inl w.1
   lia
 obtain⟨w1,w2⟩:=wk H A' (by exact ex) nw;by_cases pq:i<us.length
 ·have eu:=á pq;obtain⟨go,yl⟩:=w1 i _ eu;rw[Ķ pq] at f';obtain⟨B2,e2,f2⟩:=f'.of;refine .inr ⟨go,λY H=>∃A' B',cz X.K G _ A' B' Y H/\uv X.K G _ m _ D,λY' H' z=>⟨k-1,by lia,by lia,z⟩,λx H' y=>?_⟩;obtain⟨sm,rp⟩:=yl x H' y;refine⟨ZQ.lp A H1,A',B',us[i],q'.same sm,rp,?_⟩;rw[e2];intro Y2 q2 _;refine⟨ZQ.lp A H1,A',B2,q2,?_⟩;cases e3:s1 B2 with
  |nx B3=>rw[e3] at f2;exact λA3 Y3 H3 q3=>⟨A3,B3,q3,f2⟩
  |ct B3=>rw[e3] at f2;exact λA3 Y3 H3 q3=>⟨A3,B3,q3,f2⟩
  |bk B3=>rw[e3] at f2;exact f2
  |rt=>rw[e3] at f2;exact f2
  |exc=>rw[e3] at f2;exact f2
  |stk=>rw[e3] at f2;exact f2
 ·have e:i=us.length:=by lia
  subst e;rw[ş] at f';exact .inl ⟨w2,f' A' Y H q'⟩⟩
end
end L2
namespace L2
noncomputable def jA (js:List (Option Nat))(B:Ev):Ev:=js.map λo=>match o with
 |none=>L
 |some j=>match B[j]? with
  |some v=>v
  |none=>L
noncomputable def pF (G:Gm)(js:List (Option Nat)):Gm:=⟨js.map λo=>match o with
 |none=>M
 |some j=>G.is j,M,λ_=>False⟩
noncomputable def mJ:List (Option Nat)->Bool
 | []=>Z
 |none::r=>mJ r
 |some j::r=> !(r.contains (J j))&&mJ r
theorem uz:∀{js:List (Option Nat)} {i k j:Nat},mJ js=Z->js[i]? = J (J j)->js[k]? = J (J j)->i=k
 | [],_,_,_,_,h,_=>by simp at h
 |none::r,i,k,j,ok,h1,h2=>by
  unfold mJ at ok;cases i with
  |zero=>simp at h1
  |succ i=>
   cases k with
   |zero=>simp at h2
   |succ k=>exact congrArg _ (uz ok (by simpa using h1) (by simpa using h2))
 |some j'::r,i,k,j,ok,h1,h2=>by
  unfold mJ at ok;rw[ß] at ok;have nm:∀n ,r[n]? ≠ J _:=λn h=>by
   have:=Ċ h;simp at ok;exact ok.1 this
  cases i with
  |zero=>
   grind
  |succ i=>
   cases k with
   |zero=>grind
   |succ k=>exact congrArg _ (uz ok.2 (by simpa using h1) (by simpa using h2))
theorem nS (h:(jA js B)[i]? = J (J u)):∃j,js[i]? = J (J j)/\B[j]? = J (J u):=by
 unfold jA at h;rw[ç] at h;cases e:js[i]? with
 |none=>rw[e] at h;cases h
 |some o=>
  rw[e] at h;cases o with
  |none=>cases h
  |some j=>
   refine⟨j,rfl,?_⟩;have h:=Đ h;dsimp only at h;split at h
   ·rename_i v hv;rw[hv,h]
   ·cases h
def nU (h:js[i]? = J (J j))(hv:Y[j]? = J (J v)):(Fq js Y)[i]? = J (J v):=by
 unfold Fq;rw[ç,h];dsimp only[Option.map];rw[hv]
def uA (h:js[i]? = J (J j)):(pF G js).is i=G.is j:=by
 unfold pF Gm.is;rw[List.getD,ç,h];rfl
def Fx (js:List (Option Nat))(B:Ev)(Y:St):(jA js B).length=(Fq js Y).length:=by
 unfold jA Fq;rw[Ê,Ê]
section
variable {Bi:Ev}
theorem Fy (q:cz K G ZQ A B Y H)(ok:mJ js=Z):cz K (pF G js) ⟨λ_=>False,λ_=>L,0⟩ A (jA js B) (Fq js Y) H where
 slot:=λi u h=>by
  obtain⟨j,h1,h2⟩:=nS h;obtain⟨v,h3,h4⟩:=q.slot j u h2;refine⟨v,nU h1 h3,?_⟩;rw[uA h1];grind
 dis:=λi k u w a ci ck ne hi hk si sk=>by
  obtain⟨j,h1,h2⟩:=nS hi;obtain⟨j',SJ,QK⟩:=nS hk;rw[uA h1] at ci;rw[uA SJ] at ck;obtain⟨b,e1,_⟩:=q.own ci h2;obtain⟨b',VX,_⟩:=q.own ck QK;rw[nU h1 e1] at si;rw[nU SJ VX] at sk;cases si;cases sk;exact q.dis j j' u w a ci ck (λz=>ne (by grind[uz])) h2 QK e1 VX
 mu:=q.mu
 sup:=λ_ h=>h.elim
 out:=λ_ _=>.inr rfl
 bas:=λ_ _ h=>by cases h
 io0:=λh=>by cases h
 len:=Fx js B Y
def O5 (G:Gm)(js:List (Option Nat))(B:Ev)(Y:St)(a:I):Prop:=∃(i j:Nat) (u:U),js[i]? = J (J j)/\G.is j=Z/\B[j]? = J (J u)/\Y[j]? = J (J (.ref a))
open Classical in
noncomputable def TR (G:Gm)(js:List (Option Nat))(A:I->Prop)(B:Ev)(Y:St)(H:Hp):Pkg:=⟨λa=>A a/\¬O5 G js B Y a,λa=>if O5 G js B Y a then L else H a,0⟩
def uB (h:O5 G js B Y a):(TR G js A B Y H).B a=L:=by
 unfold TR;exact h_ h
def nV (h:¬O5 G js B Y a):(TR G js A B Y H).B a=H a:=by
 unfold TR;exact hZ h
theorem TU (q:cz K G ZQ A B Y H)(ok:mJ js=Z):cz K (pF G js) (TR G js A B Y H) A (jA js B) (Fq js Y) H where
 slot:=λi u h=>by
  obtain⟨j,h1,h2⟩:=nS h;obtain⟨v,h3,h4⟩:=q.slot j u h2;refine⟨v,nU h1 h3,?_⟩;rw[uA h1];by_cases c:G.is j=Z
  ·rw[h_ c] at h4 |-;obtain⟨a,e1,e2,_,_,e5⟩:=h4;subst e1;have cp:O5 G js B Y a:=⟨i,j,u,h1,c,h2,h3⟩;exact⟨a,rfl,e2,uB cp,.inl λz=>z.2 cp,e5⟩
  ·rw[hZ c] at h4 |-;exact h4
 dis:=(Fy q ok).dis
 mu:=q.mu
 sup:=λ_ h=>h.1
 out:=λa h=>by
  by_cases c:O5 G js B Y a
  ·exact .inr (uB c)
  ·exact .inl ⟨h,c⟩
 bas:=λa o h=>by
  by_cases c:O5 G js B Y a
  ·rw[uB c] at h;cases h
  simp_all[nV]
 io0:=λh=>by cases h
 len:=Fx js B Y
noncomputable def ky:List (Option Nat)->Nat->Option Nat
 | [],_=>L
 |o::r,j=>if o=J j then J 0 else (ky r j).map (·+1)
theorem x9:∀{js:List (Option Nat)} {i j:Nat},ky js j=J i->js[i]? = J (J j)
 | [],_,_,h=>by cases h
 |o::r,i,j,h=>by
  unfold ky at h;split at h
  ·rename_i e;cases h;rw[e];rfl
  ·cases e:ky r j with
   |none=>grind
   |some k=>
    rw[e] at h;cases h;rw[Ρ];exact x9 e
theorem uC:∀{js:List (Option Nat)} {i j:Nat},ky js j=L->js[i]? ≠ J (J j)
 | [],_,_,_=>by simp
 |o::r,i,j,h=>by
  unfold ky at h;split at h
  ·cases h
  ·rename_i ne;cases e:ky r j with
   |some k=>grind
   |none=>
    cases i with
    |zero=>intro z;exact ne (Đ z)
    |succ i=>rw[Ρ];exact uC e
def wb (G:Gm)(js:List (Option Nat))(Bi B:Ev):Ev:=B.mapIdx λj x=>if (G.is j&&x.isSome)=Z then (match ky js j with
 |some i=>(Bi[i]?).getD L
 |none=>x) else x
theorem Dz (h:(wb G js Bi B)[j]? = J (J u)):∃u0,B[j]? = J (J u0)/\((G.is j=Z/\∃i,ky js j=J i/\Bi[i]? = J (J u))\/(u0=u/\(G.is j=M\/ky js j=L))):=by
 unfold wb at h;rw[List.getElem?_mapIdx] at h;cases e:B[j]? with
 |none=>rw[e] at h;cases h
 |some x=>
  rw[e] at h;have h:=Đ h;cases x with
  |none=>simp at h
  |some u0=>
   grind
theorem cz.wb {Y4:St}(q:cz K G ZQ A B Y H)(ok:mJ js=Z)(q':cz K (pF G js) (TR G js A B Y H) A Bi Y4 H')(ho:∀i,(pF G js).is i=Z->Y4[i]? = (Fq js Y)[i]?):cz K G ZQ A (L2.wb G js Bi B) Y H'/\dP A H H':=by
 have YC:∀a,O5 G js B Y a->A a/\ZQ.B a=L:=λa h00=>by
  obtain⟨i,j,u,h1,h2,h3,h4⟩:=h00;obtain⟨b,e1,e2,e3,_⟩:=q.own h2 h3;lia
 have ex:dP A H H':=λb o nb z=>q'.bas b o (by rw[nV λc=>nb (YC b c).1];exact z);refine⟨{
  slot:=λj u h=>?_
  dis:=λi k u w a ci ck ne hi hk si sk=>by
   obtain⟨u1,h1,_⟩:=Dz hi;obtain⟨u2,h2,_⟩:=Dz hk;exact q.dis i k u1 u2 a ci ck ne h1 h2 si sk
  mu:=q'.mu
  sup:=q.sup
  out:=q.out
  bas:=λa o h=>q'.bas a o (by
   rw[nV λc=>by grind];exact q.bas a o h)
  io0:=q.io0
  len:=by unfold L2.wb;rw[List.length_mapIdx];exact q.len},ex⟩
 obtain⟨u0,h0,hh⟩:=Dz h;rcases hh with⟨c,i,hi,hu⟩|⟨rfl,hc⟩
 ·have hj:=x9 hi;obtain⟨a,e1,e2,e3,e4,_⟩:=q.own c h0;have ci:(pF G js).is i=Z:=by rw[uA hj];exact c
  obtain⟨a',k1,k2,_,_,k5⟩:=q'.own ci hu;rw[ho i ci,nU hj e1] at k1;cases k1;refine⟨.ref a,e1,?_⟩;rw[h_ c];exact⟨a,rfl,e2,e3,e4,k5⟩
 ·obtain⟨v,h1,h2⟩:=q.slot j u0 h0;refine⟨v,h1,?_⟩;by_cases c:G.is j=Z
  ·rw[h_ c] at h2 |-;obtain⟨a,rfl,e2,e3,e4,e5⟩:=h2;have hc:ky js j=L:=by
    lia
   have nc:¬O5 G js B Y a:=λh00=>by
    obtain⟨i,j',u,z1,z2,z3,z4⟩:=h00;have ne:j≠j':=λz=>by grind[uC]
    exact q.dis j j' u0 u a c z2 ne h0 z3 h1 z4
   exact⟨a,rfl,e2,e3,e4,e5.re q.mu ex (λb z=>.inl z) λo z=>q'.bas a o (by rw[nV nc];exact z)⟩
  ·rw[hZ c] at h2 |-;exact h2.re q.mu ex λb z=>.inl z
end
def JG (f:U->R (Option U)):List U->R (List U)
 | []=>.ok []
 |u::us=>(f u).bind λo=>(JG f us).bind λr=>.ok (match o with
  |some y=>y::r
  |none=>r)
def HZ (js:List (Option Nat))(sg:U->Ev->R Ev)(gt:Ev->R (Bool×Ev))(ge:Ev->R (U×Ev))(B:Ev)(u:U):R (Option U):=
 (sg u (jA js B)).bind λBi=>(gt Bi).bind λc=>if c.1=Z then (ge Bi).bind λy=>.ok (J y.1) else .ok L
def fL (gi:Ev->R (List U×Ev))(js:List (Option Nat))(sg:U->Ev->R Ev)(gt:Ev->R (Bool×Ev))(ge:Ev->R (U×Ev)):Ev->R (U×Ev):=λB=>
 (gi B).bind λx=>(JG (HZ js sg gt ge x.2) x.1).bind λys=>.ok (.lst ys,x.2)
def pV (G:Gm)(js:List (Option Nat))(sg:U->Ev->R Ev)(gt:Ev->R (Bool×Ev))(ge:Ev->R (U×Ev)):List U->Ev->R (List U×Ev)
 | [],B=>.ok ([],B)
 |u::us,B=>(sg u (jA js B)).bind λBi=>(gt Bi).bind λc=>if c.1=Z then (ge c.2).bind λy=>(pV G js sg gt ge us (wb G js y.2 B)).bind λr=>.ok (y.1::r.1,r.2) else pV G js sg gt ge us (wb G js c.2 B)
def za (G:Gm)(gi:Ev->R (List U×Ev))(js:List (Option Nat))(sg:U->Ev->R Ev)(gt:Ev->R (Bool×Ev))(ge:Ev->R (U×Ev)):Ev->R (U×Ev):=λB=>
 (gi B).bind λx=>(pV G js sg gt ge x.1 x.2).bind λy=>.ok (.lst y.1,y.2)
theorem R.bind_ok {α β:Type}{x:R α}{k:α->R β}{b:β}(h:x.bind k=.ok b):∃a,x=.ok a/\k a=.ok b:=by
 cases x with
 |ok a=>exact⟨a,rfl,h⟩
 |exc=>cases h
 |stk=>cases h
section
variable {e:Æ}{pos:Pos}{b1 b2 b3 p:Bool}{m me:Md}{gi:Ev->R (List U×Ev)}{gt:Ev->R (Bool×Ev)}{ge:Ev->R (U×Ev)}
theorem Bg (ok:mJ js=Z)(hn:me≠.P){Q:VK}(h:tD X.K G b1 .O (fL gi js sg gt ge) Y H Q) :
  Y0 (Y2 X.K G b1 p gi) js (λ_=>ZO X.K (pF G js) sg) (λ_=>Fu X.K (pF G js) M gt) (λ_=>tD X.K (pF G js) M me ge) Y H Q:=by
 obtain⟨ZQ,A,B,q,f⟩:=h;obtain⟨⟨us,B1⟩,e1,f⟩:=f.bind;obtain⟨all,e2,f⟩:=f.bind;refine⟨ZQ,A,B,q,?_⟩;rw[e1];intro Jqq H1 q1 x1 s1 ⟨hz,wk⟩ Yqq;refine⟨λi k ys H2=>i+k=us.length/\aN H1 H2/\∃done rest,JG _ (us.drop i)=.ok rest/\done++rest=all/\aP X.K H2 A done ys/\done.length<=i,
  ⟨us.length,by lia,aN.refl _,[],all,by exact e2,rfl,aP.nil,Ñ _⟩,?_⟩
 rintro i k ys H2 ⟨hk,sm,done,rest,e3,e4,rs,hd⟩;have q2:=q1.same sm;obtain⟨w1,w2⟩:=wk H2 A (by simp_all[dP.same]) λb z=>.inl z;by_cases pq:i<us.length
 ·have eu:=á pq;obtain⟨go,yl⟩:=w1 i _ eu;rw[Ķ pq] at e3;obtain⟨o,e5,e3⟩:=R.bind_ok e3;obtain⟨r,e6,e3⟩:=R.bind_ok e3;obtain⟨Bi,e7,e5⟩:=R.bind_ok e5;obtain⟨⟨c,Bc⟩,e8,e5⟩:=R.bind_ok e5;refine .inr ⟨go,by rw[<-rs.length];lia,λSK H'=>aN H1 H'/\∃done,done++r=all/\aP X.K H' A done SK/\done.length<=i+1,λSK H' ⟨z1,dn,z2,z3,z4⟩=>⟨k-1,by lia,by lia,z1,dn,r,e6,z2,z3,z4⟩,λx H3 y=>?_⟩;obtain⟨CP,rp⟩:=yl x H3 y;refine⟨_,A,jA js B1,us[i],(Fy (q2.same CP) ok),rp,?_⟩;rw[e7];intro Y4 q4 _;refine⟨_,A,Bi,q4,?_⟩;rw[e8];intro H5 q5 x5 s5;obtain⟨rfl,sm5⟩:=s5 rfl;cases c with
  |false=>
   cases e5;cases e3;exact⟨(sm.trans CP).trans sm5,done,e4,(rs.same CP).same sm5,by lia⟩
  |true=>
   obtain⟨⟨y1,By⟩,e9,e5⟩:=R.bind_ok e5;cases e5;cases e3;refine⟨_,A,Bc,q5,?_⟩;rw[e9];intro v H6 q6 x6 s6 vm;obtain⟨rfl,sm6⟩:=s6 rfl;have sm':=CP.trans (sm5.trans sm6);exact⟨sm.trans sm',done++[y1],by rw[Ĩ];exact e4,(rs.same sm').append (aP.cons (vm.rp hn) aP.nil),by simp;lia⟩
 ·have e:i=us.length:=by lia
  subst e;rw[ş] at e3;cases e3;rw[Ĝ] at e4;subst e4;refine .inl ⟨w2,λa na=>?_⟩;have sn:=cY na (.lst ys);exact f _ _ (q2.same sn) ((x1.trans (dP.same sm)).trans (dP.same sn)) (sr (sr s1 sm) sn) (HU.e q2 sn ⟨a,rfl,na,dh q2.mu rs na (by lia)⟩)
theorem uD (ok:mJ js=Z)(hn:me≠.P){Q:VK}(h:tD X.K G Z .O (za G gi js sg gt ge) Y H Q) :
  Y0 (Y2 X.K G b1 M gi) js (λ_=>ZO X.K (pF G js) sg) (λ_=>Fu X.K (pF G js) b2 gt) (λ_=>tD X.K (pF G js) b3 me ge) Y H Q:=by
 obtain⟨ZQ,A,B,q,f⟩:=h;obtain⟨⟨us,B1⟩,e1,f⟩:=f.bind;obtain⟨⟨all,Be⟩,e2,f⟩:=f.bind;refine⟨ZQ,A,B,q,?_⟩;rw[e1];intro Jqq H1 q1 x1 s1 ⟨hz,wk⟩ Yqq;dsimp only at e2 f;refine⟨λi k ys H2=>i+k=us.length/\dP A H1 H2/\∃B2 done rest,cz X.K G ZQ A B2 Y H2/\pV G js sg gt ge (us.drop i) B2=.ok (rest,Be)/\done++rest=all/\aP X.K H2 A done ys/\done.length<=i,
  ⟨us.length,by lia,dP.refl,B1,[],all,q1,by exact e2,rfl,aP.nil,Ñ _⟩,?_⟩
 rintro i k ys H2 ⟨hk,ex,B2,done,rest,q2,e3,e4,rs,hd⟩;obtain⟨w1,w2⟩:=wk H2 A (by exact ex) λb z=>.inl z;by_cases pq:i<us.length
 ·have eu:=á pq;obtain⟨go,yl⟩:=w1 i _ eu;rw[Ķ pq] at e3;obtain⟨Bi,e7,e3⟩:=R.bind_ok e3;obtain⟨⟨c,Bc⟩,e8,e3⟩:=R.bind_ok e3;refine .inr ⟨go,by rw[<-rs.length];lia,λSK H'=>dP A H1 H'/\∃B2 done rest,cz X.K G ZQ A B2 Y H'/\pV G js sg gt ge _ B2=.ok _/\done++rest=all/\aP X.K H' A done SK/\done.length<=i+1,λSK H' z=>⟨k-1,by lia,by lia,z⟩,λx H3 y=>?_⟩;obtain⟨CP,rp⟩:=yl x H3 y;have q3:=q2.same CP;refine⟨TR G js A B2 Y H3,A,jA js B2,us[i],TU q3 ok,rp,?_⟩;rw[e7];intro Y4 q4 o4;refine⟨_,A,Bi,q4,?_⟩;rw[e8];intro H5 q5 x5 s5;cases c with
  |false=>
   obtain⟨q6,x6⟩:=q3.wb ok q5 o4;exact⟨ex.trans ((dP.same CP).trans x6),_,done,rest,q6,e3,e4,(rs.same CP).re q3.mu x6 (λb z=>.inl z),by lia⟩
  |true=>
   obtain⟨⟨y1,By⟩,e9,e3⟩:=R.bind_ok e3;obtain⟨⟨r,Br⟩,e10,e3⟩:=R.bind_ok e3;cases e3;refine⟨_,A,Bc,q5,?_⟩;rw[e9];intro v H6 q6 x6 s6 vm;obtain⟨q7,x7⟩:=q3.wb ok q6 o4;exact⟨ex.trans ((dP.same CP).trans x7),_,done++[y1],r,q7,e10,by rw[Ĩ];exact e4,((rs.same CP).re q3.mu x7 (λb z=>.inl z)).append (aP.cons (vm.rp hn) aP.nil),by simp;lia⟩
 ·have e:i=us.length:=by lia
  subst e;rw[ş] at e3;cases e3;rw[Ĝ] at e4;subst e4;refine .inl ⟨w2,λa na=>?_⟩;have sn:=cY na (.lst ys);exact f _ _ (q2.same sn) ((x1.trans ex).trans (dP.same sn)) (λz=>nomatch z) (HU.e q2 sn ⟨a,rfl,na,dh q2.mu rs na (by lia)⟩)
structure DB (X:Cx)(G:Gm)(qM:List Æ)(b:Bool)(h:Ev->R (Bool×Ev)):Prop where
 un:HJ X qM (Fu X.K G b h)
noncomputable def dN:Ev->R (Bool×Ev):=λB=>.ok (Z,B)
def bB:DB X G [] M dN:=⟨λpins s Y H Q I ⟨ZQ,A,B,q,f⟩=>Kb pins s Y H Q I (f H q dP.refl λ_=>⟨rfl,aN.refl _⟩)⟩
def nW {h:Ev->R (Bool×Ev)}(hc:DT X G e b1 h):DB X G [e] b1 h:=⟨Kc hc.un⟩
def dU (i6:þ)(NX N:List Str)(js:List (Option Nat))(hc:X.calm=Z)(hi:DI X G tg iter b1 p gi)(sW:∀Yqq:qR,DG (eF X scope N Yqq) (pF G js) tg sg/\DB (eF X scope N Yqq) (pF G js) qM M gt/\DE (eF X scope N Yqq) (pF G js) elt M me ge)(hn:me≠.P:=by decide)(ok:mJ js=Z:=by rfl)(jq:X.env.scope=i6:=by rfl)(JB:X.N=NX:=by rfl)(hS:sf i6 NX scope N js=Z:=by decide+kernel)(hs:∀x,ĭ iter X.env x=pure x:=by intro _;rfl):DE X G (.ListComp elt [⟨tg,iter,qM,0⟩] scope pos) b1 .O (fL gi js sg gt ge):=⟨(Q1 i6 NX N js hc hi.un (λYqq=>⟨(sW Yqq).1.un,(sW Yqq).2.1.un,(sW Yqq).2.2.un⟩) jq JB hS hs).to λ_ _ _=>Bg ok hn⟩
def TV (i6:þ)(NX N:List Str)(js:List (Option Nat))(hc:X.calm=Z)(hi:DI X G tg iter b1 M gi)(sW:∀Yqq:qR,DG (eF X scope N Yqq) (pF G js) tg sg/\DB (eF X scope N Yqq) (pF G js) qM b2 gt/\DE (eF X scope N Yqq) (pF G js) elt b3 me ge)(hn:me≠.P:=by decide)(ok:mJ js=Z:=by rfl)(jq:X.env.scope=i6:=by rfl)(JB:X.N=NX:=by rfl)(hS:sf i6 NX scope N js=Z:=by decide+kernel)(hs:∀x,ĭ iter X.env x=pure x:=by intro _;rfl):DE X G (.ListComp elt [⟨tg,iter,qM,0⟩] scope pos) Z .O (za G gi js sg gt ge):=⟨(Q1 i6 NX N js hc hi.un (λYqq=>⟨(sW Yqq).1.un,(sW Yqq).2.1.un,(sW Yqq).2.2.un⟩) jq JB hS hs).to λ_ _ _=>uD ok hn⟩
variable {Ax:Pos}
def lB (i6:þ)(NX N:List Str)(js:List (Option Nat))(hN:X.N.Nodup)(hc:X.calm=Z)(hi:DI X G tg iter b1 p gi)(sW:∀Yqq:qR,DG (eF X scope N Yqq) (pF G js) tg sg/\DB (eF X scope N Yqq) (pF G js) qM M gt/\DE (eF X scope N Yqq) (pF G js) elt M me ge)(hx:X.N[i]? = J x:=by rfl)(hl:JE X.env.scope x:=by first|exact Or.inl rfl|exact Or.inr rfl)(c:G.is i=M:=by rfl)(hn:me≠.P:=by decide)(ok:mJ js=Z:=by rfl)(jq:X.env.scope=i6:=by rfl)(JB:X.N=NX:=by rfl)(hS:sf i6 NX scope N js=Z:=by decide+kernel)(hw:Ē (.ListComp elt [⟨tg,iter,qM,0⟩] scope Ax) (J (.Name x pos')) pos.line X.env=pure Z:=by rfl)(hf:X.fn x=Z\/X.env.scope.names.lookup x=J .local:=by first|exact .inl rfl|exact .inr rfl|assumption)(hs:∀x,ĭ iter X.env x=pure x:=by intro _;rfl):DS X G m (.Assign [.Name x pos'] (.ListComp elt [⟨tg,iter,qM,0⟩] scope Ax) pos) (ba i (fL gi js sg gt ge)):=⟨(ue i6 NX N js hN hx hl hc hi.un (λYqq=>⟨(sW Yqq).1.un,(sW Yqq).2.1.un,(sW Yqq).2.2.un⟩) jq JB hS hw hf hs).to λ_ _ _=>ux c (by decide) λ_ _ _=>Bg ok hn⟩
def H9 (i6:þ)(NX N:List Str)(js:List (Option Nat))(hN:X.N.Nodup)(hc:X.calm=Z)(hi:DI X G tg iter b1 M gi)(sW:∀Yqq:qR,DG (eF X scope N Yqq) (pF G js) tg sg/\DB (eF X scope N Yqq) (pF G js) qM b2 gt/\DE (eF X scope N Yqq) (pF G js) elt b3 me ge)(hx:X.N[i]? = J x:=by rfl)(hl:JE X.env.scope x:=by first|exact Or.inl rfl|exact Or.inr rfl)(c:G.is i=M:=by rfl)(hn:me≠.P:=by decide)(ok:mJ js=Z:=by rfl)(jq:X.env.scope=i6:=by rfl)(JB:X.N=NX:=by rfl)(hS:sf i6 NX scope N js=Z:=by decide+kernel)(hw:Ē (.ListComp elt [⟨tg,iter,qM,0⟩] scope Ax) (J (.Name x pos')) pos.line X.env=pure Z:=by rfl)(hf:X.fn x=Z\/X.env.scope.names.lookup x=J .local:=by first|exact .inl rfl|exact .inr rfl|assumption)(hs:∀x,ĭ iter X.env x=pure x:=by intro _;rfl):DS X G m (.Assign [.Name x pos'] (.ListComp elt [⟨tg,iter,qM,0⟩] scope Ax) pos) (ba i (za G gi js sg gt ge)):=⟨(ue i6 NX N js hN hx hl hc hi.un (λYqq=>⟨(sW Yqq).1.un,(sW Yqq).2.1.un,(sW Yqq).2.2.un⟩) jq JB hS hw hf hs).to λ_ _ _=>ux c (by decide) λ_ _ _=>uD ok hn⟩
def DC (i6:þ)(NX N:List Str)(js:List (Option Nat))(hN:X.N.Nodup)(hc:X.calm=Z)(hi:DI X G tg iter b1 M gi)(sW:∀Yqq:qR,DG (eF X scope N Yqq) (pF G js) tg sg/\DB (eF X scope N Yqq) (pF G js) qM b2 gt/\DE (eF X scope N Yqq) (pF G js) elt b3 me ge)(h0:G.io=Z->i≠0:=by decide)(hx:X.N[i]? = J x:=by rfl)(hl:JE X.env.scope x:=by first|exact Or.inl rfl|exact Or.inr rfl)(c:G.is i=Z:=by rfl)(hn:me≠.P:=by decide)(ok:mJ js=Z:=by rfl)(jq:X.env.scope=i6:=by rfl)(JB:X.N=NX:=by rfl)(hS:sf i6 NX scope N js=Z:=by decide+kernel)(hw:Ē (.ListComp elt [⟨tg,iter,qM,0⟩] scope Ax) (J (.Name x pos')) pos.line X.env=pure Z:=by rfl)(hf:X.fn x=Z\/X.env.scope.names.lookup x=J .local:=by first|exact .inl rfl|exact .inr rfl|assumption)(hs:∀x,ĭ iter X.env x=pure x:=by intro _;rfl):DS X G m (.Assign [.Name x pos'] (.ListComp elt [⟨tg,iter,qM,0⟩] scope Ax) pos) (ba i (za G gi js sg gt ge)):=⟨(ue i6 NX N js hN hx hl hc hi.un (λYqq=>⟨(sW Yqq).1.un,(sW Yqq).2.1.un,(sW Yqq).2.2.un⟩) jq JB hS hw hf hs).to λ_ _ _=>xZ c h0 λ_ _ _=>uD ok hn⟩
end
end L2
namespace L2
noncomputable def fB (n:Nat)(us:List U):Ev:=us.map J++ù (n-us.length) L
def bD (m:Md)(n:Nat)(s:Ev->SR):List U->R U:=λus=>match s (fB n us) with
 | .rt u _=>.ok u
 | .nx _=>if m=.S then .ok .non else .stk
 | .exc c u=>.exc c u
 |_=>.stk
def DF (n:Nat)(s:Ev->SR):List U->R (U×U):=λus=>match s (fB n us) with
 | .rt u B=>match B[0]? with
  |some (J w)=>.ok (u,w)
  |_=>.stk
 | .nx B=>match B[0]? with
  |some (J w)=>.ok (.non,w)
  |_=>.stk
 | .exc c u=>.exc c u
 |_=>.stk
theorem jB (h:(fB n us)[i]? = J (J u)):us[i]? = J u:=by
 unfold fB at h;by_cases c:i<(us.map J).length
 ·rw[ŷ c,ç] at h;cases e:us[i]? with
  |none=>rw[e] at h;cases h
  |some w=>rw[e] at h;simp at h;rw[h]
 ·rw[Ϯ (by lia),List.getElem?_replicate] at h;split at h
  ·cases h
  ·cases h
def ja (h:vs[i]? = J v):(f6 N vs)[i]? = J (J v):=by
 unfold f6;have c:i<(vs.map J).length:=by rw[Ê];exact (é.mp h).1
 rw[ŷ c,ç,h];rfl
def zc (h:us.length=vs.length):(fB N.length us).length=(f6 N vs).length:=by
 unfold fB f6;rw[ã,ã,Ê,Ê,ϒ,ϒ,h]
section
variable {base:É}{k:Nat}
theorem zd (G:Gm)(m:Md)(s:Ev->SR)(CV:G.io=M)(jY:∀i,i<ps.length->G.is i=M)(fA:∀(f:I) (cS:d) (A:Ð) (outer:List Env) (s0:À) (H:Hp) (E:XK),cX k (A.deeper (ċ x (ak st) s0.heap.objs.size f cS))->
   Bc (j8 pD P w K mg base N x (ak st) f cS A outer s0 H E).nox G m (bf st) s) :
  (∀vs H Q E,eG K ps.length (bD m N.length s) m vs H Q E->vs.length=ps.length)/\∀(f:I) (cS:d) (A:Ð) (outer:List Env) (s0:À) (H:Hp) (vs:List V) (Q:VK) (E:XK),cX k (A.deeper (ċ x (ak st) s0.heap.objs.size f cS))->eG K ps.length (bD m N.length s) m vs H Q E->
   ∃t,tX (j8 pD P w K mg base N x (ak st) f cS A outer s0 H E).nox (bf st) t/\t {nx:=λ_ H'=>Q .non H',rt:=Q} (f6 N vs) H:=by
 have hl:∀(us:List U) (A:I->Prop) (H:Hp) (Q:VK),Kw K m A H (wQ ps.length (bD m N.length s) us) Q->us.length=ps.length:=λus A H Q h=>by
  unfold wQ at h;split at h
  ·assumption
  ·exact h.elim
 refine⟨λvs H Q E ⟨us,A,r,_,h⟩=>by rw[<-r.length];exact hl us A H Q h,λf cS A outer s0 H vs Q E hr ⟨us,A0,r,mu,h⟩=>⟨_,(fA f cS A outer s0 H E hr).un,?_⟩⟩;have l:=hl us A0 H Q h;unfold wQ at h;rw[h_ l] at h;refine⟨⟨A0,H,0⟩,A0,fB N.length us,?_,?_⟩
 ·exact {
   slot:=λi u hu=>by
    have hu:=jB hu;obtain⟨v,h1,h2⟩:=r.get hu;refine⟨v,ja h1,?_⟩;rw[hZ (by rw[jY i (by rw[<-l];exact (é.mp hu).1)];exact í)];exact h2
   dis:=λi j u w a ci cj ne hi hj si sj=>by
    rw[jY i (by rw[<-l];exact (é.mp (jB hi)).1)] at ci;cases ci
   mu:=mu
   sup:=λa h=>h
   out:=λa h=>.inl h
   bas:=λa o h=>h
   io0:=λh=>by lia
   len:=zc r.length}
 ·unfold bD at h;cases e:s _ with
  |nx B'=>
   rw[e] at h;dsimp only at h;intro A' Y' H' q;split at h
   ·rename_i hm;subst hm;exact h _ H' q.bas (show Rp K H' A0 .non .non from ur)
   ·exact h.elim
  |rt u B'=>
   rw[e] at h;intro A' Y' H' v q vm;refine h v H' q.bas ?_;cases m with
   |S=>exact vm
   |P=>exact vm.elim
   |O=>
    obtain⟨a,e1,e2,e3,e4⟩:=vm;exact⟨a,e1,e2,e4⟩
  |bk=>rw[e] at h;exact h.elim
  |ct=>rw[e] at h;exact h.elim
  |exc=>rw[e] at h;exact h.elim
  |stk=>rw[e] at h;exact h.elim
def Df.fnD (G:Gm)(m:Md)(s:Ev->SR)(d:Df K mg x st)(S:ay N ps (ak st))(hb:∀(kV ke pm:Ì) (an:Option I) (cS ct:Ì) (us:List Ì),us.length=ps.length->ĵ (č x x (cT st) (bf st) (ak st) .none kV ke pm an cS ct) ⟨us,[]⟩=pure (ps.zip us))(CV:G.io=M)(jY:∀i,i<ps.length->G.is i=M)(fA:∀(f:I) (cS:Ì) (A:Ð) (outer:List Env) (s0:À) (H:Hp) (E:XK),cX k (A.deeper (ċ x (ak st) s0.heap.objs.size f cS))->
   Bc (j8 pD P w K mg base N x (ak st) f cS A outer s0 H E).nox G m (bf st) s):Fn P w K mg base x (k+1) ps (eG K ps.length (bD m N.length s) m):=
 d.fn S hb (zd G m s CV jY fA).1 (zd G m s CV jY fA).2
theorem HF.okD (G:Gm)(m:Md)(s:Ev->SR)(F:HF K x x st f fd)(S:ay N ps (ak st))(CV:G.io=M)(jY:∀i,i<ps.length->G.is i=M)(fA:∀(f:I) (cS:d) (A:Ð) (outer:List Env) (s0:À) (H:Hp) (E:XK),cX k (A.deeper (ċ x (ak st) s0.heap.objs.size f cS))->
   Bc (j8 pD P w K mg base N x (ak st) f cS A outer s0 H E).nox G m (bf st) s):gE P w K mg base pD (k+1) f fd ps (eG K ps.length (bD m N.length s) m):=
 F.ok S (zd G m s CV jY fA).1 ((zd G m s CV jY fA).2 f)
def Bh (K:È):Sp:=λvs H Q _=>∃(a:I) (ns:List Int),vs=[.ref a]/\OW K H a (ns.map V.int)/\ns.length<=63/\∀H',Q (.bl Z) H'
theorem TX (hO:OM H)(h:fG K H a xs):OW K H a xs:=by
 rcases h with (h|h)|h
 ·rcases hO a with z|⟨o,ys,z⟩
  ·lia
  lia
 ·exact .inl h
 ·exact .inr h
theorem Bi {H:Hp}{A:I->Prop}:∀(ns:List Int),aP K H A (ns.map .int) (ns.map V.int)
 | []=>aP.nil
 |n::ns=>aP.cons df (Bi ns)
theorem TY {f:List U->R U}(F:gE P w K mg base pD k fa fd ["script"] (eG K 1 f .S))(h:∀ns:List Int,ns.length<=63->f [.scr (ns.map .int)]=.ok (.bl Z)):gE P w K mg base pD k fa fd ["script"] (Bh K):=by
 refine F.imp λvs H Q E ⟨a,ns,e,sc,l,q⟩=>?_;subst e;have hl:(ns.map U.int).length<=Å:=by rw[Ê];have:Å=16777216:=rfl;lia
 refine⟨[.scr (ns.map .int)],λ_=>False,aP.cons ?_ aP.nil,λ_ h=>h.elim,?_⟩
 ·exact⟨a,_,rfl,sc,hl,Bi ns⟩
 ·have e:wQ 1 f [.scr _]=.ok _:=(h_ rfl).trans (h ns l);rw[e];intro v H' sm vm;have vm:=vm;subst vm;exact q H'
theorem Df.fnI (G:Gm)(s:Ev->SR)(d:Df K mg x st)(S:ay N ps (ak st))(hb:∀(kV ke pm:Ì) (an:Option I) (cS ct:Ì) (us:List Ì),us.length=ps.length->ĵ (č x x (cT st) (bf st) (ak st) .none kV ke pm an cS ct) ⟨us,[]⟩=pure (ps.zip us))(CV:G.io=Z)(h0:G.is 0=Z)(jY:∀i,i<ps.length->i≠0->G.is i=M)(fA:∀(f:I) (cS:Ì) (A:Ð) (outer:List Env) (s0:À) (H:Hp) (E:XK),cX k (A.deeper (ċ x (ak st) s0.heap.objs.size f cS))->
   Bc (j8 pD P w K mg base N x (ak st) f cS A outer s0 H E).nox G .S (bf st) s):Fn P w K mg base x (k+1) ps (VA K ps.length (DF N.length s)):=by
 refine d.fn S hb ?_ ?_
 ·rintro vs H Q E ⟨u0,us,a0,vs',A,rfl,_,_,r,_,h⟩;unfold wQ at h;split at h
  ·rename_i e;split at e
   ·rename_i l;rw[Ù,<-r.length,<-l];rfl
   ·cases e
  lia
 ·rintro f cS A outer s0 H vs Q E hr ⟨u0,us,a0,vs',A0,rfl,ha,t0,r,mu,h⟩;refine⟨_,(fA f cS A outer s0 H E hr).un,?_⟩;have l:(u0::us).length=ps.length:=by
   unfold wQ at h;by_cases c:(u0::us).length=ps.length
   ·exact c
   ·rw[hZ c] at h;exact h.elim
  unfold wQ at h;rw[h_ l] at h
  let ZQ:Pkg:=⟨A0,λb=>if b=a0 then L else H b,a0⟩
  have zb:=λb o nb z=>by
   show (if b=a0 then L else H b)=J o;rw[hZ nb];exact z
  have rel:cz K G ZQ A0 (fB N.length (u0::us)) _ H:={
   slot:=λi u hu=>by
    have hu:=jB hu;cases i with
    |zero=>
     simp at hu;subst hu;refine⟨.ref a0,ja (by simp),?_⟩;lia
    |succ i=>
     have hl:=(é.mp hu).1;obtain⟨v,h1,h2⟩:=r.get hu;simp_all[ja,hZ,í]
   dis:=λi j u w a ci cj ne hi hj si sj=>by
    have hi:=(é.mp (jB hi)).1;have hj:=(é.mp (jB hj)).1;grind
   mu:=mu
   sup:=λa h=>h
   out:=λa h=>.inl h
   bas:=λa o h=>by
    lia
   io0:=λ_=>⟨ja (vs:=.ref a0::vs') rfl,h0⟩
   len:=zc (by rw[Ù,Ù,r.length])}
  have fin:∀(A':I->Prop) (B':Ev) (Y':St) (H':Hp) (w:U),cz K G ZQ A' B' Y' H'->B'[0]? = J (J w)->(∀b o,b≠a0->H b=J o->H' b=J o)/\mq K H' A0 w a0:=λA' B' Y' H' w q hw=>by
   obtain⟨a,e1,e2,e3,e4,e5⟩:=q.own h0 hw;rw[(q.io0 CV).1] at e1;cases e1;exact⟨λb o nb z=>q.bas b o (zb b o nb z),e5.mono q.sup⟩
  refine⟨ZQ,A0,_,rel,?_⟩;unfold DF at h;cases e:s _ with
  |nx B'=>
   rw[e] at h;dsimp only at h;intro A' Y' H' q;split at h
   ·rename_i hm;split at hm
    ·rename_i w hw;cases hm;obtain⟨z1,z2⟩:=fin A' B' Y' H' _ q hw;exact h _ H' z1 z2 ur
    ·cases hm
   lia
  |rt u B'=>
   rw[e] at h;dsimp only at h;intro A' Y' H' v q vm;split at h
   ·rename_i hm;split at hm
    ·rename_i w hw;cases hm;obtain⟨z1,z2⟩:=fin A' B' Y' H' _ q hw;exact h _ H' z1 z2 vm
    ·cases hm
   lia
  |bk=>rw[e] at h;exact h.elim
  |ct=>rw[e] at h;exact h.elim
  |exc=>rw[e] at h;exact h.elim
  |stk=>rw[e] at h;exact h.elim
end
section
variable {e e2:Æ}{pos p1 p2:Pos}{y:Str}{b1 b2:Bool}{m m1 m2:Md}{g1 g2:Ev->R (U×Ev)}
def nX (i:Nat)(gv gk:Ev->R (U×Ev)):Ev->SR:=λB=>SR.of (gv B) λx=>if Kx x.2 i=Z then SR.of (gk x.2) λy=>match y.1 with
 | .int k=>match y.2[i]? with
  |some (J (.lst us))=>match JF us.length k with
   |some j=>.nx (y.2.set i (J (.lst (us.set j x.1))))
   |none=>.stk
  |_=>.stk
 |_=>.stk
 else .stk
theorem jC (he:DE X G e b1 m1 g1)(hk:DE X G e2 b2 m2 g2)(hn:m1≠.P:=by decide)(hN:X.N[i]? = J y:=by rfl)(hv:AN X.env.scope y:=by first|exact Or.inl rfl|exact Or.inr (Or.inl rfl)|exact Or.inr (Or.inr rfl))(c:G.is i=Z:=by rfl)(hd:(y==("__debug__":Str))=M:=by decide)(jX:(y==("__classdict__":Str))=M:=by decide)(ha:∀v,assign (.Subscript (.Name y p1) e2 p2) X.env v=(do
   let ov ←holding [v] (Í (.Name y p1) X.env)
   let iv ←holding [v,ov] (Í e2 X.env)
   standAt p2
   holding [v,ov,iv] (setItem ov iv v)
   release [v,ov,iv] []):=by intro _;rfl)(hs:swapsWithSole [.Subscript (.Name y p1) e2 p2] e pos.line X.env=pure M:=by rfl)(hw:swappedStores [.Subscript (.Name y p1) e2 p2] e X.env=pure L:=by rfl)(h1:(Č [.Subscript (.Name y p1) e2 p2] X.env).map (·.2)=[assign (.Subscript (.Name y p1) e2 p2) X.env]:=by rfl):DS X G m (.Assign [.Subscript (.Name y p1) e2 p2] e pos) (nX i g1 g2):=⟨(C2 he.un (S5 (eN hN hv hd jX) hk.un J3 ha) hs hw h1).to λD Y H h00=>by
 obtain⟨ZQ,A,B,q,f⟩:=h00;obtain⟨⟨u,B1⟩,e1,f⟩:=f.of;refine⟨ZQ,A,B,q,?_⟩;rw[e1];intro v H1 q1 x1 s1 vm;split at f
 ·rename_i hl;obtain⟨u00,hu0⟩:=y9 hl;obtain⟨a0,h0,_⟩:=q1.own c hu0;obtain⟨⟨k,B2⟩,e2,f⟩:=f.of;refine⟨.ref a0,h0,ZQ,A,B1,q1,?_⟩;rw[e2];intro v2 H2 q2 x2 s2 yP;cases k with
  |int kk=>
   dsimp only at f;split at f
   ·rename_i us hu;split at f
    ·rename_i j hj;obtain⟨a0',k1,k2,_,_,k5⟩:=q2.own c hu;rw[h0] at k1;cases k1;obtain⟨xs,t1,t2,t3⟩:=k5;refine⟨a0,xs,kk,j,rfl,yP.pk.int,t1,by rw[<-t3.length];exact hj,?_⟩;have em:∀b o,b≠a0->H2 b=J o->bc H2 a0 (.lst (xs.set j v)) b=J o:=λb o nb z=>by rw[aG nb];exact z
     have ex:dP A H2 _:=λb o nb z=>em b o (λy=>nb (y▸k2)) z;refine f A Y _ (q2.put c hu h0 em ⟨xs.set j v,aI,by rw[ġ];exact t2,?_⟩);exact (t3.re q2.mu ex λb z=>.inl z).set j (((vm.rp hn).re q1.mu x2 λb z=>.inl z).re q2.mu ex λb z=>.inl z)
    ·exact f.elim
   ·exact f.elim
  |_=>exact f.elim
 ·exact f.elim⟩
end
end L2
namespace L2
def KD:R2:=λx y H Q=>∃l b xs zs,x=.ref l/\y=.ref b/\H l=J (.lst xs)/\H b=J (.lst zs)/\xs.length+zs.length<=Å/\∀p,H p=L->Q (.ref p) (bc H p (.lst (xs++zs)))
theorem O6:kh X (ě .Add) KD:=by
 intro pins s Y H x y v u Q I rx ry h;obtain⟨l,b,xs,zs,rfl,rfl,hH,hB,hz,q⟩:=h;cases rx;cases ry;obtain⟨z,aH,n,r,hl,e⟩:=I.lstM hH;obtain⟨z2,its2,n2,r2,SI,e2⟩:=I.lstM hB;refine PySem.P.add_list e e2 ?_ (by rw[å,å];lia);have ea:aH.toArray++its2.toArray=(aH++its2).toArray:=by simp
 rw[ea];exact⟨.ref _,_,I.lnew (r.append r2) (by rw[ã];lia),rfl,q _ I.fresh⟩
noncomputable def dk:U->U->R U:=λu w=>match u,w with
 | .int i,.int j=>.ok (.int (i+j))
 | .tup a,.tup b=>if a.length+b.length<=Å then .ok (.tup (a++b)) else .stk
 | .lst a,.lst b=>if a.length+b.length<=Å then .ok (.lst (a++b)) else .stk
 |_,_=>.stk
noncomputable def WU:U->U->R U:=λu w=>match u,w with
 | .lst a,.lst b=>if a.length+b.length<=Å then .ok (.lst (a++b)) else .stk
 |_,_=>.stk
def Q5:R2:=λx y H Q=>(Hv λi j=>.int (i+j)) x y H Q\/Kp x y H Q\/KD x y H Q
def bu:kh X (ě .Add) Q5:=S_.or (Kq.or O6)
theorem O7:fK K KD .O WU:=λA H x y u w z Q hx hy mu e q=>by
 unfold WU at e;split at e
 ·split at e
  ·rename_i hl;cases e;obtain⟨a,xs,rfl,h1,l1,r1⟩:=hx;obtain⟨b,ys,rfl,h2,l2,r2⟩:=hy;exact⟨a,b,xs,ys,rfl,rfl,h1,h2,by rw[<-r1.length,<-r2.length];exact hl,λp hp=>q _ _ (cY hp _) ⟨p,rfl,hp,dh mu (r1.append r2) hp (by rw[ã];exact hl)⟩⟩
  ·cases e
 ·cases e
theorem bw:fK K Q5 .S dk:=λA H x y u w z Q hx hy mu e q=>by
 unfold dk at e;split at e
 ·cases e;exact .inl ⟨_,_,hx.int,hy.int,q _ H (aN.refl _) (show Rp K H A _ _ from df)⟩
 ·split at e
  ·rename_i hl;cases e;obtain⟨a,xs,rfl,h1,l1,r1⟩:=hx;obtain⟨b,ys,rfl,h2,l2,r2⟩:=hy;refine .inr (.inl ⟨a,b,xs,ys,rfl,rfl,h1,h2,by rw[<-r1.length,<-r2.length];exact hl,λr H' sm hr=>q _ H' sm (show Rp K H' A _ _ from ?_)⟩);exact⟨r,_,rfl,hr,by rw[ã];exact hl,(r1.append r2).same sm⟩
  ·cases e
 ·refine .inr (.inr (O7 A H x y _ _ z Q hx hy mu (e) λv H' sm vm=>q v H' sm ?_));obtain⟨a,rfl,na,t⟩:=vm;exact t.rp (λb h=>.inl h) λh=>by have:=mu a h;rw[na] at this;exact this
 ·cases e
noncomputable def pI (c:Int->Int->Bool)(f:Int->Int->Int):U->U->R U:=λu w=>match u,w with
 | .int i,.int j=>if c i j=Z then .ok (.int (f i j)) else .stk
 |_,_=>.stk
theorem Fz {C:Int->Int->Prop}{c:Int->Int->Bool}{f:Int->Int->Int}(h:∀i j,c i j=Z->C i j):fK K (rI C λi j=>.int (f i j)) .S (pI c f):=λA H x y u w z Q hx hy mu e q=>by
 unfold pI at e;split at e
 ·rename_i i j;split at e
  ·rename_i hc;cases e;exact⟨i,j,hx.int,hy.int,h i j hc,q _ H (aN.refl _) (show Rp K H A _ _ from df)⟩
  ·cases e
 ·cases e
noncomputable def H_:U->U->R U:=λu w=>match u,w with
 | .int i,.int j=>.ok (.int (i-j))
 |_,_=>.stk
theorem ze:fK K (Hv λi j=>.int (i-j)) .S H_:=λA H x y u w z Q hx hy mu e q=>by
 unfold H_ at e;split at e
 ·cases e;exact⟨_,_,hx.int,hy.int,q _ H (aN.refl _) (show Rp K H A _ _ from df)⟩
 ·cases e
noncomputable def jb (i j:Int):Bool:=(decide (-(2 ^ 64)<i)&&decide (i<2 ^ 64))||(decide (-(2 ^ 64)<j)&&decide (j<2 ^ 64))
def eI:U->U->R U:=pI jb (·*·)
def b_:fK K (rI Oz λi j=>.int (i*j)) .S eI:=Fz λi j h=>by
 unfold jb at h;simp only[ž,ß,decide_eq_true_eq] at h;exact h
noncomputable def Bj (_ j:Int):Bool:=decide (0<j)&&decide (j<18446744073709551616)
def qU:U->U->R U:=pI Bj (· / ·)
def kz:fK K (rI Kk λi j=>.int (i / j)) .S qU:=Fz λi j h=>by
 unfold Bj at h;simp only[ß,decide_eq_true_eq] at h;exact h
def su:U->U->R U:=pI (λ_ j=>decide (0<j)) (· % ·)
def iE:fK K (rI (λ_ j=>0<j) λi j=>.int (i % j)) .S su:=Fz λi j h=>of_decide_eq_true h
noncomputable def O8 (i j:Int):Bool:=decide (0<=j)&&decide (j<=1000000)&&decide (i.natAbs<2 ^ 64)
def O9:U->U->R U:=pI O8 λi j=>i ^ j.toNat
def FA:fK K (rI Wg λi j=>.int (i ^ j.toNat)) .S O9:=Fz λi j h=>by
 unfold O8 at h;simp only[ß,decide_eq_true_eq] at h;exact⟨h.1.1,h.1.2,h.2⟩
noncomputable def O_:U->R U:=λu=>match u with
 | .int i=>.ok (.int (-i))
 |_=>.stk
theorem Pb:TH K (rU λi=>.int (-i)) .S O_:=λA H x u z Q hx mu e q=>by
 unfold O_ at e;split at e
 ·cases e;exact⟨_,hx.int,q _ H (aN.refl _) (show Rp K H A _ _ from df)⟩
 ·cases e
noncomputable def pC (f:Int->Int->Bool):U->U->R U:=λu w=>match u,w with
 | .int i,.int j=>.ok (.bl (f i j))
 |_,_=>.stk
theorem KG {f:Int->Int->Bool}:fK K (Hv λi j=>.bl (f i j)) .S (pC f):=λA H x y u w z Q hx hy mu e q=>by
 unfold pC at e;split at e
 ·cases e;exact⟨_,_,hx.int,hy.int,q _ H (aN.refl _) (show Rp K H A _ _ from gx)⟩
 ·cases e
def Y3:U->U->R U:=pC λi j=>decide (i<j)
def VC:U->U->R U:=pC λi j=>decide (j<i)
def ZU:U->U->R U:=pC λi j=>decide (j<=i)
mutual
noncomputable def tq:U->Option D
 | .non=>J .non
 | .bl b=>J (.bl b)
 | .int i=>J (.int i)
 | .str x=>J (.str x)
 | .tup us=>(mK us).map .tup
 | .lst us=>(mK us).map .lst
 | .dct _ _=>L
 | .scr _=>L
 | .obj _ _=>L
noncomputable def mK:List U->Option (List D)
 | []=>J []
 |u::us=>(tq u).bind λd=>(mK us).map λds=>d::ds
end
mutual
theorem DH {H:Hp}{A:I->Prop}:∀{u:U} {v:V} {d:D},Rp K H A u v->tq u=J d->iO K H d v
 | .non,v,d,h,e=>by grind[tq,Rp,iO]
 | .bl b,v,d,h,e=>by grind[tq,Rp,iO]
 | .int b,v,d,h,e=>by grind[tq,Rp,iO]
 | .str b,v,d,h,e=>by grind[tq,Rp,iO]
 | .tup us,v,d,h,e=>by
  unfold tq at e;cases e2:mK us with
  |none=>grind
  |some ds=>
   rw[e2] at e;cases e;unfold Rp at h;unfold iO;obtain⟨a,xs,r,q,l,z⟩:=h;exact⟨a,xs,r,gR.of q,lC z e2⟩
 | .lst us,v,d,h,e=>by
  unfold tq at e;cases e2:mK us with
  |none=>grind
  |some ds=>
   rw[e2] at e;cases e;unfold Rp at h;unfold iO;obtain⟨a,xs,r,_,q,l,z⟩:=h;exact⟨a,xs,r,fG.of q,lC z e2⟩
 | .dct _ _,v,d,h,e=>by grind[tq]
 | .scr _,v,d,h,e=>by grind[tq]
 | .obj _ _,v,d,h,e=>by grind[tq]
theorem lC {H:Hp}{A:I->Prop}:∀{us:List U} {vs:List V} {ds:List D},aP K H A us vs->mK us=J ds->f7 K H ds vs
 | [],vs,ds,h,e=>by grind[mK,aP,f7]
 |u::us,vs,ds,h,e=>by
  unfold mK at e;cases e1:tq u with
  |none=>grind
  |some d=>
   cases e2:mK us with
   |none=>grind
   |some ds'=>
    rw[e1,e2] at e;cases e;unfold aP at h;unfold f7;obtain⟨x,r,q,p,z⟩:=h;exact⟨x,r,q,DH p e1,lC z e2⟩
end
theorem zf {d:D}(h:Pk K H A u v)(e:tq u=J d):iO K H d v:=by
 cases u with
 |lst us=>
  unfold tq at e;cases e2:mK us with
  |none=>grind
  |some ds=>
   rw[e2] at e;cases e;obtain⟨a,xs,r,q,l,z⟩:=h;exact⟨a,xs,r,fG.of q,lC z e2⟩
 |dct=>cases e
 |scr=>cases e
 |tup us=>exact DH (by exact h) e
 |_=>exact DH (A:=A) (by exact h) e
def pW (u w:U):R Bool:=match tq u,tq w with
 |some d,J d'=>if fI d<=30 then .ok (lu d d') else .stk
 |_,_=>.stk
def Oi (f:Bool->Bool):U->U->R U:=λu w=>(pW u w).bind λb=>.ok (.bl (f b))
theorem pX {f:Bool->Bool}:fK K (Tp K f) .S (Oi f):=λA H x y u w z Q hx hy mu e q=>by
 unfold Oi pW at e;obtain⟨b,e1,e2⟩:=R.bind_ok e;split at e1
 ·rename_i d d' h1 h2;split at e1
  ·rename_i hd;cases e1;cases e2;exact⟨d,d',zf hx h1,zf hy h2,hd,q _ H (aN.refl _) (show Rp K H A _ _ from gx)⟩
  ·cases e1
 ·cases e1
noncomputable def FC:U->Bool
 | .non=>Z
 |_=>M
theorem KI (h:Pk K H A u v):decide (v=.non)=FC u:=by
 cases u<;>unfold Pk at h
 case tup=>obtain⟨a,xs,rfl,_⟩:=h;rfl
 case lst=>obtain⟨a,xs,rfl,_⟩:=h;rfl
 case dct=>obtain⟨a,xs,rfl,_⟩:=h;rfl
 case scr=>obtain⟨a,xs,rfl,_⟩:=h;rfl
 case obj=>obtain⟨a,C,dx,xs,rfl,_⟩:=h;rfl
 all_goals (subst h;rfl)
def Pc (f:Bool->Bool):U->U->R U:=λu w=>match w with
 | .non=>.ok (.bl (f (FC u)))
 |_=>.stk
theorem KJ:fK K (λx y H Q=>y=.non/\Q (.bl (!decide (x=.non))) H) .S (Pc not):=λA H x y u w z Q hx hy mu e q=>by
 unfold Pc at e;split at e
 ·cases e;refine⟨by exact hy,q _ H (aN.refl _) ?_⟩;rw[KI hx];rfl
 ·cases e
theorem DJ {i:Int}{z:U}(r:aP K H A us xs)(e:pB us i=J z):∃v,pB xs i=J v/\Rp K H A z v:=by
 unfold pB at e |-;rw[<-r.length];cases h:JF us.length i with
 |none=>rw[h] at e;cases e
 |some j=>
  rw[h] at e;obtain⟨v,h1,h2⟩:=r.get (e);exact⟨v,h1,h2⟩
def cv:U->U->R U:=λu w=>match u,w with
 | .lst us,.int i=>match pB us i with
  |some z=>.ok z
  |none=>.stk
 | .tup us,.int i=>match pB us i with
  |some z=>.ok z
  |none=>.stk
 | .scr us,.int i=>match pB us i with
  |some z=>.ok z
  |none=>.stk
 | .str x,.int i=>match pB x.cps.toList i with
  |some c=>if x.length<=Å then .ok (.str ⟨#[c]⟩) else .stk
  |none=>.stk
 |_,_=>.stk
theorem aE:fK K (rIx K) .S cv:=λA H x y u w z Q hx hy mu e q=>by
 unfold cv at e;split at e
 ·split at e
  ·rename_i z' hz;cases e;obtain⟨a,xs,rfl,h1,l1,r1⟩:=hx;obtain⟨v,h2,h3⟩:=DJ r1 hz;exact .inl ⟨a,xs,_,v,rfl,hy.int,fG.of h1,h2,q _ H (aN.refl _) h3⟩
  ·cases e
 ·split at e
  ·rename_i z' hz;cases e;obtain⟨a,xs,rfl,h1,l1,r1⟩:=hx;obtain⟨v,h2,h3⟩:=DJ r1 hz;exact .inr (.inl ⟨a,xs,_,v,rfl,hy.int,gR.of h1,h2,q _ H (aN.refl _) h3⟩)
  ·cases e
 ·split at e
  ·rename_i z' hz;cases e;obtain⟨a,xs,rfl,h1,l1,r1⟩:=hx;obtain⟨v,h2,h3⟩:=DJ r1 hz;exact .inl ⟨a,xs,_,v,rfl,hy.int,h1.sq,h2,q _ H (aN.refl _) h3⟩
  ·cases e
 ·split at e
  ·rename_i z' hz;split at e
   ·rename_i hl;cases e;exact .inr (.inr ⟨_,_,z',hx.str,hy.int,hl,hz,q _ H (aN.refl _) (show Rp K H A _ _ from Tx)⟩)
   ·cases e
  ·cases e
 ·cases e
end L2
namespace L2
section
theorem Oh.one (h:Oh K H A [u] vs):∃v,vs=[v]/\Pk K H A u v:=by
 obtain⟨x,r,rfl,p,q⟩:=h;subst q;exact⟨x,rfl,p⟩
theorem Oh.two {w:U}(h:Oh K H A [u,w] vs):∃v v',vs=[v,v']/\Pk K H A u v/\Pk K H A w v':=by
 obtain⟨x,r,rfl,p,q⟩:=h;obtain⟨v,rfl,q'⟩:=Oh.one q;exact⟨x,v,rfl,p,q'⟩
noncomputable def gF:List U->R U:=λus=>match us with
 | [.lst xs]=>.ok (.int xs.length)
 | [.tup xs]=>.ok (.int xs.length)
 | [.scr xs]=>.ok (.int xs.length)
 | [.str x]=>if x.length<=Å then .ok (.int x.length) else .stk
 |_=>.stk
theorem cH:lY K (λxs H Q=>∃x n,xs=[x]/\Wl K x H n/\Q (.int n) H) .S gF:=λA H vs us z Q h mu e q=>by
 unfold gF at e;split at e
 ·rename_i xs;cases e;obtain⟨v,rfl,p⟩:=h.one;obtain⟨a,ys,rfl,h1,l1,r1⟩:=p;exact⟨_,xs.length,rfl,.inl ⟨ys,fG.of h1,r1.length⟩,q _ H (aN.refl _) (show Rp K H A _ _ from df)⟩
 ·rename_i xs;cases e;obtain⟨v,rfl,p⟩:=h.one;obtain⟨a,ys,rfl,h1,l1,r1⟩:=p;exact⟨_,xs.length,rfl,.inr ⟨ys,gR.of h1,r1.length⟩,q _ H (aN.refl _) (show Rp K H A _ _ from df)⟩
 ·rename_i xs;cases e;obtain⟨v,rfl,p⟩:=h.one;obtain⟨a,ys,rfl,h1,l1,r1⟩:=p;exact⟨_,xs.length,rfl,.inl ⟨ys,h1.sq,r1.length⟩,q _ H (aN.refl _) (show Rp K H A _ _ from df)⟩
 ·rename_i x;split at e
  ·rename_i hl;cases e;obtain⟨v,rfl,p⟩:=h.one;have:=p.str;subst this;exact⟨_,x.length,rfl,⟨hl,rfl⟩,q _ H (aN.refl _) (show Rp K H A _ _ from df)⟩
  ·cases e
 ·cases e
noncomputable def fh:List U->R U:=λus=>match us with
 | [.lst xs]=>.ok (.tup xs)
 | [.tup xs]=>.ok (.tup xs)
 |_=>.stk
theorem ed:lY K (λxs H Q=>∃p ys,xs=[.ref p]/\((fG K H p ys/\∀l,H l=L->Q (.ref l) (bc H l (.tup ys)))\/(gR K H p ys/\Q (.ref p) H))) .S fh:=λA H vs us z Q h mu e q=>by
 unfold fh at e;split at e
 ·cases e;obtain⟨v,rfl,p⟩:=h.one;obtain⟨a,ys,rfl,h1,l1,r1⟩:=p;exact⟨a,ys,rfl,.inl ⟨fG.of h1,λl hl=>q _ _ (cY hl _) (xY r1 hl l1)⟩⟩
 ·cases e;obtain⟨v,rfl,p⟩:=h.one;have p':=p;obtain⟨a,ys,rfl,h1,l1,r1⟩:=p;refine⟨a,ys,rfl,.inr ⟨gR.of h1,q _ H (aN.refl _) (show Rp K H A _ _ from ?_)⟩⟩;exact p'
 ·cases e
noncomputable def Ib:List U->R U:=λus=>match us with
 | [.int i]=>.ok (.int (if i<0 then -i else i))
 |_=>.stk
theorem FD:lY K (λxs H Q=>∃i,xs=[.int i]/\Q (.int (if i<0 then -i else i)) H) .S Ib:=λA H vs us z Q h mu e q=>by
 unfold Ib at e;split at e
 ·cases e;obtain⟨v,rfl,p⟩:=h.one;exact⟨_,by rw[p.int],q _ H (aN.refl _) (show Rp K H A _ _ from df)⟩
 ·cases e
noncomputable def FE:List U->R U:=λus=>match us with
 | [.int i,.int j]=>.ok (.int (if j>i then j else i))
 |_=>.stk
theorem KN:lY K (λxs H Q=>∃i j,xs=[.int i,.int j]/\Q (.int (if j>i then j else i)) H) .S FE:=λA H vs us z Q h mu e q=>by
 unfold FE at e;split at e
 ·cases e;obtain⟨v,w,rfl,p,p'⟩:=h.two;exact⟨_,_,by rw[p.int,p'.int],q _ H (aN.refl _) (show Rp K H A _ _ from df)⟩
 ·cases e
noncomputable def FF:List U->R U:=λus=>match us with
 | [.int i,.int j]=>.ok (.int (if j<i then j else i))
 |_=>.stk
theorem KO:lY K (λxs H Q=>∃i j,xs=[.int i,.int j]/\Q (.int (if j<i then j else i)) H) .S FF:=λA H vs us z Q h mu e q=>by
 unfold FF at e;split at e
 ·cases e;obtain⟨v,w,rfl,p,p'⟩:=h.two;exact⟨_,_,by rw[p.int,p'.int],q _ H (aN.refl _) (show Rp K H A _ _ from df)⟩
 ·cases e
noncomputable def fF:List U->Option (List Int)
 | []=>J []
 | .int i::us=>(fF us).map (i::·)
 |_::_=>L
noncomputable def uE:List U->Option (List Bool)
 | []=>J []
 | .bl i::us=>(uE us).map (i::·)
 |_::_=>L
theorem iF:∀{us:List U} {ns:List Int},fF us=J ns->us=ns.map .int
 | [],ns,h=>by cases h;rfl
 |u::us,ns,h=>by
  cases u<;>unfold fF at h<;>try cases h
  cases e:fF us with
  |none=>grind
  |some ms=>rw[e] at h;cases h;rw[iF e];rfl
theorem Bk:∀{us:List U} {ns:List Bool},uE us=J ns->us=ns.map .bl
 | [],ns,h=>by cases h;rfl
 |u::us,ns,h=>by
  cases u<;>unfold uE at h<;>try cases h
  cases e:uE us with
  |none=>grind
  |some ms=>rw[e] at h;cases h;rw[Bk e];rfl
theorem aP.toI {H:Hp}{A:I->Prop}:∀{ns:List Int} {vs:List V},aP K H A (ns.map .int) vs->vs=ns.map V.int
 | [],vs,h=>by exact h
 |n::ns,vs,h=>by
  obtain⟨x,r,rfl,p,q⟩:=h;rw[p,aP.toI q];rfl
theorem aP.toB {H:Hp}{A:I->Prop}:∀{ns:List Bool} {vs:List V},aP K H A (ns.map .bl) vs->vs=ns.map V.bl
 | [],vs,h=>by exact h
 |n::ns,vs,h=>by
  obtain⟨x,r,rfl,p,q⟩:=h;rw[p,aP.toB q];rfl
theorem nY {H:Hp}{A:I->Prop}:∀(ns:List Int),aP K H A (ns.map .int) (ns.map V.int)
 | []=>aP.nil
 |n::ns=>aP.cons df (nY ns)
def TZ:List U->R U:=λus=>match us with
 | [.lst xs]=>match uE xs with
  |some bs=>.ok (.bl (bs.all id))
  |none=>.stk
 |_=>.stk
theorem Pd:lY K (λxs H Q=>∃(p:I) (bs:List Bool),xs=[.ref p]/\fG K H p (bs.map V.bl)/\Q (.bl (bs.all id)) H) .S TZ:=λA H vs us z Q h mu e q=>by
 unfold TZ at e;split at e
 ·split at e
  ·rename_i bs hb;cases e;obtain⟨v,rfl,p⟩:=h.one;obtain⟨a,ys,rfl,h1,l1,r1⟩:=p;rw[Bk hb] at r1;rw[r1.toB] at h1;exact⟨a,bs,rfl,fG.of h1,q _ H (aN.refl _) (show Rp K H A _ _ from gx)⟩
  ·cases e
 ·cases e
noncomputable def Ic (x:Int):List Int->List Int
 | []=>[x]
 |y::r=>if y<x then y::Ic x r else x::y::r
def Bl (ns:List Int):List Int:=ns.foldr Ic []
theorem pY (x:Int):∀l,(Ic x l).Perm (x::l)
 | []=>.refl _
 |y::r=>by
  unfold Ic;split
  ·exact ((pY x r).cons y).trans (.swap x y r)
  rfl
theorem mL:∀ns:List Int,(Bl ns).Perm ns
 | []=>.refl _
 |x::l=>(pY x _).trans ((mL l).cons x)
theorem FG (x:Int):∀{l:List Int},l.Pairwise (·<=·)->(Ic x l).Pairwise (·<=·)
 | [],_=>ķ _ _
 |y::r,h=>by
  obtain⟨h1,h2⟩:=Ė.mp h;unfold Ic;split
  ·refine Ė.mpr ⟨λz hz=>?_,FG x h2⟩;rcases Ø.mp ((pY x r).mem_iff.mp hz) with rfl|hz
   ·lia
   ·exact h1 z hz
  ·refine Ė.mpr ⟨λz hz=>?_,h⟩;grind
theorem Bm:∀ns:List Int,(Bl ns).Pairwise (·<=·)
 | []=>List.Pairwise.nil
 |x::l=>FG x (Bm l)
def DK:List U->R U:=λus=>match us with
 | [.lst xs]=>match fF xs with
  |some ns=>if ns.length<64 then .ok (.lst ((Bl ns).map .int)) else .stk
  |none=>.stk
 | [.tup xs]=>match fF xs with
  |some ns=>if ns.length<64 then .ok (.lst ((Bl ns).map .int)) else .stk
  |none=>.stk
 |_=>.stk
theorem Ie:lY K (λxs H Q=>∃(p:I) (ns:List Int),xs=[.ref p]/\(fG K H p (ns.map V.int)\/gR K H p (ns.map V.int))/\ns.length<64/\
  ∀(l:I) (md:List Int),H l=L->md.Perm ns->md.Pairwise (·<=·)->Q (.ref l) (bc H l (.lst (md.map V.int)))) .O DK:=λA H vs us z Q h mu e q=>by
 have fin:∀(ns:List Int),ns.length<64->z=.lst ((Bl ns).map .int)->∀(l:I) (md:List Int),H l=L->md.Perm ns->md.Pairwise _->Q (.ref l) (bc H l (.lst (md.map _))):=λns hl hz l md hn hp hw=>by
  have e:=PySem.W.ksm_same (hp.trans (mL ns).symm) hw (Bm ns);subst e hz;refine q _ _ (cY hn _) ⟨l,rfl,hn,dh mu (nY _) hn ?_⟩;have:Å=16777216:=rfl;rw[Ê,(mL ns).length_eq];lia
 unfold DK at e;split at e
 ·split at e
  ·rename_i ns hb;split at e
   ·rename_i hl;cases e;obtain⟨v,rfl,p⟩:=h.one;obtain⟨a,ys,rfl,h1,l1,r1⟩:=p;rw[iF hb] at r1;rw[r1.toI] at h1;exact⟨a,ns,rfl,.inl (fG.of h1),hl,fin ns hl rfl⟩
   ·cases e
  ·cases e
 ·split at e
  ·rename_i ns hb;split at e
   ·rename_i hl;cases e;obtain⟨v,rfl,p⟩:=h.one;obtain⟨a,ys,rfl,h1,l1,r1⟩:=p;rw[iF hb] at r1;rw[r1.toI] at h1;exact⟨a,ns,rfl,.inr (gR.of h1),hl,fin ns hl rfl⟩
   ·cases e
  ·cases e
 ·cases e
noncomputable def dTy (ks:List U):String:=match ks with
 | .tup _::_=>"script"
 |_=>"dict"
def Y4:U->String
 | .non=>"NoneType"
 | .bl _=>"bool"
 | .int _=>"int"
 | .str _=>"str"
 | .tup _=>"tuple"
 | .lst _=>"list"
 | .dct ks _=>dTy ks
 | .scr _=>"script"
 | .obj _ _=>"script"
variable {e:Æ}{pos p1 p2:Pos}{b1:Bool}{m1:Md}{g1:Ev->R (U×Ev)}
noncomputable def DM (i j:Int):Bool:=decide (-1000000<=i)&&decide (i<=1000000)&&decide (-1000000<=j)&&decide (j<=1000000)
def x_ (g:Ev->R (List U×Ev)):Ev->R (U×Ev):=λB=>(g B).bind λx=>match x.1 with
 | [.int j]=>if DM 0 j=Z then .ok (.lst (bK 0 (j-0).toNat),x.2) else .stk
 |_=>.stk
def Ig (lo:Int)(n:Nat):aP K H A (bK lo n) ((ā n).map λi=>V.int (lo+(i:Nat))):=by
 unfold bK;have e1:(ā n).map (λi=>U.int (lo+(i:Nat)))=((ā n).map λi=>lo+(i:Nat)).map U.int:=by rw[ñ];rfl
 have e2:(ā n).map (λi=>V.int (lo+(i:Nat)))=((ā n).map λi=>lo+(i:Nat)).map V.int:=by rw[ñ];rfl
 grind[nY]
def gW (lo:Int)(n:Nat):(bK lo n).length=n:=by unfold bK;rw[Ê,Ş]
variable {a:Æ}{p3 p4:Pos}
theorem tw (hc:X.calm=Z)(ha:DA X G [a] b1 M ga)(zl:X.mg "list"=L)(zr:X.mg "range"=L)(hg:Gl X "list":=by rfl)(YD:Gl X "range":=by rfl)
  (hs:Î [.Call (.Name "range" p3) [a] [] p4] X.env=(M,Í (.Call (.Name "range" p3) [a] [] p4) X.env)::Î [] X.env:=by rfl) (pG:Î [a] X.env=(M,Í a X.env)::Î [] X.env:=by rfl)
  (nv:(ä pos (Î [] X.env)).any (·.1)=M:=by rfl) (Vm:(ä p4 (Î [] X.env)).any (·.1)=M:=by rfl):DE X G (.Call (.Name "list" p1) [.Call (.Name "range" p3) [a] [] p4] [] pos) b1 .O (x_ ga):=⟨(pN (wY hc) hg zl Ft (gD (pN A8 YD zr Kl ha.un (by decide) (by decide) pG Vm) mF hs) (by decide) (by decide) hs nv).to λY H Q h=>by
 obtain⟨ZQ,A,B,q,f⟩:=h;obtain⟨⟨us,B1⟩,e1,f⟩:=f.bind;refine⟨ZQ,A,B,q,?_⟩;rw[e1];intro vs H1 q1 x1 s1 vm;dsimp only at f;split at f
 ·rename_i j;split at f
  ·rename_i hj;have r:=vm.rps;obtain⟨v,vr,rfl,r1,r2⟩:=r;subst r2;subst r1;unfold DM at hj;simp only[ß,decide_eq_true_eq] at hj;refine⟨j,rfl,λp hp=>⟨p,0,j,rfl,aI,by lia,by lia,λl hl=>?_⟩⟩;have sp:=cY hp (.rng 0 j);have sl:=cY hl (.lst ((ā (j-0).toNat).map λi=>V.int (0+(i:Nat))));exact f _ _ ((q1.same sp).same sl) (x1.trans (dP.same (sp.trans sl))) (sr s1 (sp.trans sl)) (HU.e (q1.same sp) sl ⟨l,rfl,hl,dh (q1.same sp).mu (Ig 0 _) hl (by rw[gW];have:Å=16777216:=rfl;lia)⟩)
  ·exact f.elim
 ·exact f.elim⟩
noncomputable def tE:U->List U->R (U×U):=λu us=>match u,us with
 | .lst xs,[y]=>if xs.length<Å then .ok (.non,.lst (xs++[y])) else .stk
 |_,_=>.stk
def gX {a:I}(o:HO):∀b u,b≠a->H b=J u->bc H a o b=J u:=λb u nb z=>by rw[aG nb];exact z
def nZ {a:I}(mu:∀a,A a->Mu (H a))(ha:A a)(r:aP K H A us xs)(l:us.length<=Å):mq K (bc H a (.lst xs)) A (.lst us) a:=
 ⟨xs,aI,l,r.re mu (λb o nb z=>gX _ b o (λy=>nb (y▸ha)) z) λb z=>.inl z⟩
theorem uF:Bb K "list" yY tE:=λA H a u vs us z w Q t ha r mu e q=>by
 unfold tE at e;split at e
 ·split at e
  ·rename_i hl;cases e;obtain⟨ys,h1,l1,r1⟩:=t;obtain⟨v,vr,rfl,p,r2⟩:=r;subst r2;exact⟨a,ys,v,rfl,rfl,h1,by rw[<-r1.length];exact hl,q _ _ (gX _) (nZ mu ha (r1.append (aP.cons p aP.nil)) (by rw[ã];exact hl)) ur⟩
  ·cases e
 ·cases e
def Bn:V->List V->Hp->VK->Prop:=λx vs H Q=>∃l b xs zs,x=.ref l/\vs=[.ref b]/\H l=J (.lst xs)/\H b=J (.lst zs)/\xs.length+zs.length<=Å/\Q .non (bc H l (.lst (xs++zs)))
theorem DP:Og X "list.extend" Bn:=by
 intro pins s Y H x vs v us Q I rx rv h;obtain⟨l,b,xs,zs,rfl,rfl,hH,hB,hz,q⟩:=h;cases rx;obtain⟨u,rfl,ru⟩:=rv.one;cases ru;obtain⟨z,aH,n,r,hl,e⟩:=I.lstM hH;obtain⟨z2,its2,n2,r2,SI,e2⟩:=I.lstM hB;have hsz:aH.toArray.size+its2.toArray.size<=Å:=by rw[å,å];lia
 have N_:¬(!aH.toArray.isEmpty&&ϫ (aH.toArray.size+its2.toArray.size))=Z:=by
  rw[tZ hsz,Bool.and_false];exact í
 refine ŗ F.slot_list_extend ⟨_,e,rfl⟩ F.entry_list_extend (F.args_list_extend_2 _ _)
  (PySem.AutoSeq1.list_extend_list_list_0 l _ n b _ n2 N_ (by lia) (by lia)) ⟨e,e2,?_⟩
 refine⟨.non,_,I.lset hH e (by simp) (r.append r2) ?_,rfl,q⟩;rw[ã];lia
def Q8:V->List V->Hp->VK->Prop:=λx vs H Q=>Bn x vs H Q\/A9 x vs H Q
def tF:Og X "list.extend" Q8:=DP.or Du
noncomputable def jD:U->List U->R (U×U):=λu us=>match u,us with
 | .lst xs,[.lst ys]=>if xs.length+ys.length<=Å then .ok (.non,.lst (xs++ys)) else .stk
 | .lst xs,[.tup ys]=>if xs.length+ys.length<=Å then .ok (.non,.lst (xs++ys)) else .stk
 |_,_=>.stk
theorem jE:Bb K "list" Q8 jD:=λA H a u vs us z w Q t ha r mu e q=>by
 unfold jD at e;split at e
 ·split at e
  ·rename_i hl;cases e;obtain⟨zs,h1,l1,r1⟩:=t;obtain⟨v,vr,rfl,p,r2⟩:=r;subst r2;obtain⟨b,ws,rfl,nb,h2,l2,r3⟩:=p;exact .inl ⟨a,b,zs,ws,rfl,rfl,h1,h2,by rw[<-r1.length,<-r3.length];exact hl,q _ _ (gX _) (nZ mu ha (r1.append r3) (by rw[ã];exact hl)) ur⟩
  ·cases e
 ·split at e
  ·rename_i hl;cases e;obtain⟨zs,h1,l1,r1⟩:=t;obtain⟨v,vr,rfl,p,r2⟩:=r;subst r2;obtain⟨b,ws,rfl,h2,l2,r3⟩:=p;exact .inr ⟨a,b,zs,ws,rfl,rfl,h1,h2,by rw[<-r1.length,<-r3.length];exact hl,q _ _ (gX _) (nZ mu ha (r1.append r3) (by rw[ã];exact hl)) ur⟩
  ·cases e
 ·cases e
noncomputable def pZ:U->List U->R (U×U):=λu us=>match u,us with
 | .lst xs,[.int i]=>if -9223372036854775808<=i/\i<9223372036854775808 then (match Ś i xs.length with
  |some k=>match xs[k]? with
   |some y=>.ok (y,.lst (xs.eraseIdx k))
   |none=>.stk
  |none=>.stk) else .stk
 |_,_=>.stk
theorem aP.erase {H:Hp}{A:I->Prop}:∀{us:List U} {vs:List V} (n:Nat),aP K H A us vs->aP K H A (us.eraseIdx n) (vs.eraseIdx n)
 | [],vs,n,h=>by subst h;exact aP.nil
 |u::us,vs,0,h=>by
  obtain⟨x,r,rfl,p,q⟩:=h;exact q
 |u::us,vs,n+1,h=>by
  obtain⟨x,r,rfl,p,q⟩:=h;exact aP.cons p (aP.erase n q)
theorem Ih:Bb K "list" J6 pZ:=λA H a u vs us z w Q t ha r mu e q=>by
 unfold pZ at e;split at e
 ·rename_i xs i;split at e
  ·rename_i hi;split at e
   ·rename_i k hk;split at e
    ·rename_i y hy;cases e;obtain⟨zs,h1,l1,r1⟩:=t;obtain⟨v,vr,rfl,p,r2⟩:=r;subst r2;subst p;obtain⟨v,h2,h3⟩:=r1.get hy;exact⟨a,zs,i,k,v,rfl,rfl,h1,by lia,by lia,by rw[<-r1.length];exact hk,h2,q _ _ (gX _) (nZ mu ha (r1.erase k) (ą (List.length_eraseIdx_le _ _) l1)) (h3.re mu (λb o nb z=>gX _ b o (λy=>nb (y▸ha)) z) λb z=>.inl z)⟩
    ·cases e
   ·cases e
  ·cases e
 ·cases e
noncomputable def T1:U->List U->R (U×U):=λu us=>match u,us with
 | .lst xs,[]=>match xs[xs.length-1]? with
  |some y=>.ok (y,.lst xs.dropLast)
  |none=>.stk
 |_,_=>.stk
theorem Pe:Bb K "list" Wy T1:=λA H a u vs us z w Q t ha r mu e q=>by
 unfold T1 at e;split at e
 ·split at e
  ·rename_i y hy;cases e;obtain⟨zs,h1,l1,r1⟩:=t;subst r;obtain⟨v,h2,h3⟩:=r1.get hy;rw[r1.length] at h2;refine⟨a,zs,v,rfl,rfl,h1,h2,q _ _ (gX _) (nZ mu ha ?_ (ą (by simp) l1)) (h3.re mu (λb o nb z=>gX _ b o (λy=>nb (y▸ha)) z) λb z=>.inl z)⟩;rw[List.dropLast_eq_take,List.dropLast_eq_take,r1.length];exact r1.take _
  ·cases e
 ·cases e
end
end L2
namespace L2
section
variable {m:Md}{pos:Pos}
def KP:fK K (Hv λi j=>.bl (decide (i<j))) .S Y3:=KG
def uG:fK K (Hv λi j=>.bl (decide (j<i))) .S VC:=KG
def T2:fK K (Hv λi j=>.bl (decide (j<=i))) .S ZU:=KG
theorem FH {YE:List Ë}:Bc X G m YE (λ_=>.stk):=⟨λpins s Y H D I h=>by
 obtain⟨ZQ,A,B,q,f⟩:=h;exact f.elim⟩
noncomputable def Pf:Ev->R (U×Ev):=λB=>.ok (.dct [] [],B)
theorem jc:DE X G (.Dict [] [] pos) M .O Pf:=⟨A5.to λY H Q h=>by
 obtain⟨ZQ,A,B,q,f⟩:=h;intro a na;have sn:=cY na (.dK []);exact f _ _ (q.same sn) (dP.same sn) (λ_=>⟨rfl,sn⟩) (HU.e q sn ⟨a,rfl,na,[],.inl ⟨[],aI,rfl,rfl⟩,ė _,aP.nil⟩)⟩
end
end L2
namespace L2
def Pg (H:Hp)(a:I)(y:V)(o:Option V):Prop:=yZ H a y o\/∃es k b,dR H a es/\y=.ref b/\tf H k b/\o=f9 es k
def Y5 (H:Hp)(a:I)(y v:V)(C:Hp->Prop):Prop:=(∃H',HG H a y v H'/\C H')\/∃es k b,dR H a es/\y=.ref b/\tf H k b/\es.length<=Å/\∀ep,C (bc H a (DN a ep (eY es k b v)))
def T3 (H:Hp)(a:I):Prop:=IsD H a\/∃es,dR H a es
section
variable {d:V}{u r:Ì}{o:Option V}{A:Ð}
theorem KQ (I:aO X pins Y H s)(g:Pg H a y o):s.TypeIs (.ref a) "dict":=by
 rcases g with g|⟨es,k,b,g,_⟩
 ·exact qQ I g
 ·exact g.typeIs I
theorem WX (I:aO X pins Y H s)(d:T3 H a):s.TypeIs (.ref a) "dict"/\(∀b,Value.ref a=.ref b->∃ob,s.heap.get? b=J ob/\ob.dict=L):=by
 rcases d with d|⟨es,d⟩
 ·obtain⟨x,y,_⟩:=Ti I d;exact⟨x,y⟩
 ·exact⟨d.typeIs I,d.noDict I⟩
theorem Ii (hu:A.units+64<Ò)(I:aO X pins Y H s)(g:Pg H a y (J v))(ry:aX y u)(h:∀w' s',aO X pins Y H s'->aX v w'->Q w' s') :
  Á (Ä X.prog X.w) A (ś (.ref a) u) Q E s:=by
 rcases g with g|⟨es,k,b,g,rfl,kb,e⟩
 ·exact xR (by lia) I g ry h
 ·cases ry;exact HP hu I g kb e.symm h
theorem Ph (hu:A.units+64<Ò)(I:aO X pins Y H s)(g:Pg H a y o)(ry:aX y u)(h:∀s',aO X pins Y H s'->Q (.bool (!o.isSome)) s') :
  Á (Ä X.prog X.w) A (ă .NotIn u (.ref a)) Q E s:=by
 rcases g with g|⟨es,k,b,g,rfl,kb,e⟩
 ·exact ON (by lia) I g ry h
 ·cases ry;subst e;exact OV hu I g kb h
theorem T4 (hu:A.units+64<Ò)(I:aO X pins Y H s)(g:Pg H a y o)(ry:aX y u)(rd:aX d r)(h:∀w' s',aO X pins Y H s'->aX (o.getD d) w'->Q w' s') :
  Á (Ä X.prog X.w) A (call (.builtin "dict.get") [.ref a,u,r]) Q E s:=by
 rcases g with g|⟨es,k,b,g,rfl,kb,e⟩
 ·exact Tj (by lia) I g ry rd h
 ·cases ry;subst e;exact Tw hu I g kb rd h
theorem Ij {C:Hp->Prop}{Q:Unit->À->Prop}(hu:A.units+64<Ò)(I:aO X pins Y H s)(g:Y5 H a y v C)(ry:aX y u)(rv:aX v r)(h:∀H' s',C H'->aO X pins Y H' s'->Q () s') :
  Á (Ä X.prog X.w) A (setItem (.ref a) u r) Q E s:=by
 rcases g with⟨H',g,c⟩|⟨es,k,b,g,rfl,kb,hz,e⟩
 ·exact xS (by lia) I g ry rv λs'=>h H' s' c
 ·cases ry;exact HQ hu I g kb hz rv λep s'=>h _ s' (e ep)
end
def WY (td ty:TE):TE:=λY H Q=>td Y H λx H1=>ty Y H1 λy H2=>∃a v,x=.ref a/\Pg H2 a y (J v)/\Q v H2
def WZ (f:Bool->Bool):R2:=λy x H Q=>∃a o,x=.ref a/\Pg H a y o/\Q (.bl (f o.isSome)) H
def T5 (td ty tx:TE):TE:=λY H Q=>td Y H λx H1=>∃a,x=.ref a/\T3 H1 a/\ty Y H1 λy H2=>tx Y H2 λz H3=>∃o,Pg H3 a y o/\Q (o.getD z) H3
def W0 (td ty tv:TE):TS:=λD Y H=>tv Y H λv H1=>td Y H1 λx H2=>ty Y H2 λy H3=>∃a,x=.ref a/\Y5 H3 a y v λH4=>D.nx Y H4
section
variable {o i e f value:Æ}{pos cO bW:Pos}{td ty tv tx:TE}
theorem FJ (hu:X.A.units+64<Ò)(ho:PE X o td)(hi:PE X i ty)(hs:HH i):PE X (.Subscript o i pos) (WY td ty):=by
 intro pins s Y H Q I h;refine Fp PySem.F.slot_dict_getitem.lookup hs (c7 (ho pins s Y H _ I h) λu s1 ⟨x,H1,I1,rx,q1⟩=>c7 (hi pins s1 Y H1 _ I1 q1) λiv s2 ⟨y,H2,I2,ry,a,v,ex,g,q2⟩=>?_);subst ex;obtain rfl:u=Value.ref a:=rx;exact⟨KQ I2 g,Ii hu I2 g ry λw' s3 I3 CI=>⟨v,H2,I3,CI,q2⟩⟩
theorem ya (hu:X.A.units+64<Ò):kh X (ă .NotIn) (WZ not):=by
 intro pins s Y H y x v u Q I ry rx h;obtain⟨a,o,rfl,g,q⟩:=h;cases rx;exact Ph hu I g ry λs' I'=>⟨.bl _,H,I',rfl,q⟩
theorem KR (hu:X.A.units+64<Ò)(ho:PE X o td)(he:PE X e ty)(hf:PE X f tx)(m:M2 X o "get" cO e f bW):PE X (.Call (.Attribute o "get" cO) [e,f] [] bW) (T5 td ty tx):=by
 intro pins s Y H Q I h;refine ϐ m.base m.few m.line Ϥ ς PySem.F.type_dict_get (c7 (ho pins s Y H _ I h) λu s1 ⟨x,H1,I1,rx,a,ex,d,q1⟩=>?_);subst ex;obtain rfl:u=Value.ref a:=rx;obtain⟨t1,t2⟩:=WX I1 d;refine⟨t1,t2,?_⟩;rw[m.trees];refine Γ rfl (Calls.evalArgs_plain (ϊ (c7 (he pins s1 Y H1 _ I1 q1) λiv s2 ⟨y,H2,I2,ry,q2⟩=>
  ϊ (c7 (hf pins s2 Y H2 _ I2 q2) λfv s3 ⟨z,H3,I3,rz,ov,g,q3⟩=>Calls.spliced_nil ?_))))
 exact T4 hu I3 g ry rz λw' s4 I4 CI=>⟨_,H3,I4,CI,q3⟩
theorem zg (hu:X.A.units+64<Ò)(ho:PE X o td)(hi:PE X i ty)(hv:PE X value tv)(hs:Ē value (J (.Subscript o i pos')) pos.line X.env=pure M) :
  PS X (.Assign [.Subscript o i pos'] value pos) (W0 td ty tv):=by
 intro pins s Y H D I h;refine wpAny_Assign_Subscript (c7 (hv pins s Y H _ I h) λr s1 ⟨v,H1,I1,rv,q1⟩=>c7 (ho pins s1 Y H1 _ I1 q1) λu s2 ⟨x,H2,I2,rx,q2⟩=>c7 (hi pins s2 Y H2 _ I2 q2) λiv s3 ⟨y,H3,I3,ry,a,ex,g⟩=>?_) hs;subst ex;obtain rfl:u=Value.ref a:=rx;exact Ij hu I3 g ry rv λH4 s4 q3 I4=>⟨Y,H4,I4,q3⟩
end
noncomputable def KS:U->Bool
 | .int _=>Z
 | .str _=>Z
 |_=>M
mutual
noncomputable def wZ:U->Bool
 | .int _=>Z
 | .tup us=>uH us
 |_=>M
noncomputable def uH:List U->Bool
 | []=>Z
 |u::us=>wZ u&&uH us
end
def fE:U->Bool
 | .tup us=>uH us&&decide (dpKs us<=6)
 |_=>M
noncomputable def Ik:U->Bool
 | .tup _=>Z
 |_=>M
def jd (ks:List U)(k:U):Bool:=(KS k&&ks.all KS)||(fE k&&ks.all Ik)
noncomputable def bR:List U->List U->U->Option U
 |k'::ks,u::us,k=>if k'=k then J u else bR ks us k
 |_,_,_=>L
noncomputable def bS (ks us:List U)(k v:U):List U:=if k∈ks then Ā (λk' u=>if k'=k then v else u) ks us else us++[v]
noncomputable def cq (ks:List U)(k:U):List U:=if k∈ks then ks else ks++[k]
mutual
theorem Q9:∀{u:U} {v:V},wZ u=Z->Rp K H A u v->KH H u v
 | .int i,v,_,h=>by grind[Rp,KH]
 | .tup us,v,k,h=>by
  unfold wZ at k;unfold Rp at h;unfold KH;obtain⟨a,xs,r,q,l,z⟩:=h;exact⟨a,xs,r,q,l,DQ k z⟩
 | .non,v,k,h=>by unfold wZ at k;cases k
 | .bl _,v,k,h=>by unfold wZ at k;cases k
 | .str _,v,k,h=>by unfold wZ at k;cases k
 | .lst _,v,k,h=>by unfold wZ at k;cases k
 | .dct _ _,v,k,h=>by unfold wZ at k;cases k
 | .scr _,v,k,h=>by unfold wZ at k;cases k
 | .obj _ _,v,k,h=>by unfold wZ at k;cases k
theorem DQ:∀{us:List U} {vs:List V},uH us=Z->aP K H A us vs->ui H us vs
 | [],vs,_,h=>by grind[aP,ui]
 |u::us,vs,k,h=>by
  unfold uH at k;rw[ß] at k;unfold aP at h;unfold ui;obtain⟨x,r,q,p,z⟩:=h;exact⟨x,r,q,Q9 k.1 p,DQ k.2 z⟩
end
theorem mx (k:fE (.tup us)=Z)(h:Rp K H A (.tup us) v):∃b,v=.ref b/\tf H us b:=by
 unfold fE at k;rw[ß] at k;obtain⟨a,xs,r,q,l,z⟩:=h;exact⟨a,r,of_decide_eq_true k.2,xs,q,l,DQ k.1 z⟩
theorem Q_ (k:KS u=Z)(h:Rp K H A u v):∃q:Key,u=kU q/\v=kV q:=by
 cases u<;>first|(cases k)|skip
 ·exact⟨.inl _,rfl,h⟩
 ·exact⟨.inr _,rfl,h⟩
theorem DR {a b:Key}(h:kU a=kU b):a=b:=by
 grind[kU]
theorem DV {k:Key}:∀{aV:List (Key×V)} {us:List U},aP K H A us (aV.map (·.2))->(∀u,bR (aV.map λp=>kU p.1) us (kU k)=J u->∃v,nD aV k=J v/\Rp K H A u v)/\(bR (aV.map λp=>kU p.1) us (kU k)=L->nD aV k=L)
 | [],us,r=>⟨(λu h=>by cases h),λ_=>rfl⟩
 |p::aV,us,r=>by
  cases us with
  |nil=>cases r
  |cons u us=>
   obtain⟨x,rr,e,h1,h2⟩:=r;cases e;rw[Ç];unfold bR;by_cases c:p.1=k
   ·rw[h_ (by rw[c]),nE c];lia
   ·rw[hZ (λz=>c (DR z)),nF c];exact DV h2
theorem DX {k:List U}:∀{es:List (List U×I×V)} {us:List U},aP K H A us (es.map (·.2.2))->(∀u,bR (es.map λp=>.tup p.1) us (.tup k)=J u->∃v,f9 es k=J v/\Rp K H A u v)/\(bR (es.map λp=>.tup p.1) us (.tup k)=L->f9 es k=L)
 | [],us,r=>⟨(λu h=>by cases h),λ_=>rfl⟩
 |p::es,us,r=>by
  cases us with
  |nil=>cases r
  |cons u us=>
   obtain⟨x,rr,e,h1,h2⟩:=r;cases e;rw[Ç];unfold bR f9;rw[Ŝ];by_cases c:p.1=k
   ·grind
   ·rw[hZ (λz=>c (tup_inj.mp z)),hV c];exact DX h2
theorem DY {k:U}(d:xW H a ks xs)(r:aP K H A us xs)(f:jd ks k=Z)(hk:Rp K H A k y) :
  ∃o,Pg H a y o/\(∀u,bR ks us k=J u->∃v,o=J v/\Rp K H A u v)/\(bR ks us k=L->o=L):=by
 unfold jd at f;rw[ž,ß,ß] at f;rcases d with⟨aV,h,e1,e2⟩|⟨es,n,h,e1,e2⟩
 ·rcases f with⟨f1,f2⟩|⟨f1,f2⟩
  ·obtain⟨q,rfl,rfl⟩:=Q_ f1 hk;subst e1 e2;exact⟨_,.inl (.inl ⟨aV,q,.inl h,rfl,rfl⟩),(DV r).1,(DV r).2⟩
  ·cases aV with
   |nil=>
    subst e1 e2;cases k<;>first|(cases f1)|skip
    rename_i kk;obtain⟨b,rfl,kt⟩:=mx f1 hk;exact⟨L,.inr ⟨[],kk,b,⟨.inr ⟨rfl,h⟩,Ģ,(λe he=>by cases he)⟩,rfl,kt,rfl⟩,(λu z=>by cases z),λ_=>rfl⟩
   |cons p aV=>
    subst e1;rw[Ç,ĺ,ß] at f2;obtain⟨p1,p2⟩:=p;cases p1<;>cases f2.1
 ·rcases f with⟨f1,f2⟩|⟨f1,f2⟩
  ·exfalso;subst e1;cases es with
   |nil=>exact n rfl
   |cons p es=>rw[Ç,ĺ,ß] at f2;cases f2.1
  ·subst e1 e2;cases k<;>first|(cases f1)|skip
   rename_i kk;obtain⟨b,rfl,kt⟩:=mx f1 hk;exact⟨_,.inr ⟨es,kk,b,h,rfl,kt,rfl⟩,(DX r).1,(DX r).2⟩
end L2
namespace L2
def aP.snoc (h:aP K H A us vs)(p:Rp K H A u v):aP K H A (us++[u]) (vs++[v]):=h.append (aP.cons p aP.nil)
def W2 {k:Key}(aV:List (Key×V)):(aV.any λkv=>decide (kv.1=k))=decide (kU k∈aV.map λp=>kU p.1):=by
 rw[ļ,Ω,decide_eq_true_eq,Ú];constructor
 ·grind
 ·rintro⟨p,h1,h2⟩;exact⟨p,h1,hJ (DR h2)⟩
def FK {k:Key}(aV:List (Key×V))(v:V):jw aV k v=if (aV.any λkv=>decide (kv.1=k))=Z then aV.map (λkv=>if kv.1=k then (kv.1,v) else kv) else aV++[(k,v)]:=by
 rfl
theorem Il {k:Key}(aV:List (Key×V))(v:V):(jw aV k v).map (λp=>kU p.1)=cq (aV.map λp=>kU p.1) (kU k):=by
 rw[FK,W2];unfold cq;by_cases c:kU k∈aV.map λp=>kU p.1
 ·rw[hJ c,h_ rfl,h_ c,ñ];refine ö λp _=>?_;show kU (if p.1=k then (p.1,v) else p).1=kU p.1;split<;>rfl
 grind
theorem Im {k:Key}(p:Rp K H A u v){aV:List (Key×V)}(r:aP K H A us (aV.map (·.2))):aP K H A (bS (aV.map λp=>kU p.1) us (kU k) u) ((jw aV k v).map (·.2)):=by
 rw[FK,W2];unfold bS;by_cases c:kU k∈aV.map λp=>kU p.1
 ·rw[hJ c,h_ c];clear c
  induction aV generalizing us with
  |nil=>
   rfl
  |cons q aV ih=>
   cases us with
   |nil=>cases r
   |cons w us=>
    obtain⟨x,rr,e,h1,h2⟩:=r;cases e;rw[Ç,Ç,ĸ];refine aP.cons ?_ (ih h2);by_cases c:q.1=k
    ·lia
    ·rw[hZ (λz=>c (DR z)),hZ c];exact h1
 ·rw[hV c,hZ í,hZ c,ð];exact r.snoc p
theorem n9 {k:List U}:∀(es:List (List U×I×V)),(f9 es k).isSome=decide (U.tup k∈es.map λp=>U.tup p.1)
 | []=>by simp[f9]
 |e::es=>by
  have ih:=n9 (k:=k) es;unfold f9 at ih |-;grind
theorem p0 {k:List U}(es:List (List U×I×V))(v:V):(eY es k b v).map (λp=>U.tup p.1)=cq (es.map λp=>.tup p.1) (.tup k):=by
 unfold eY cq;rw[n9];by_cases c:U.tup k∈es.map λp=>U.tup p.1
 ·rw[hJ c,h_ rfl,h_ c,ñ];refine ö λp _=>?_;show U.tup (if p.1=k then (p.1,p.2.1,v) else p).1=.tup p.1;split<;>rfl
 grind
theorem p5 {k:List U}(p:Rp K H A u v)(r:aP K H A us (es.map (·.2.2))):aP K H A (bS (es.map λp=>.tup p.1) us (.tup k) u) ((eY es k b v).map (·.2.2)):=by
 unfold eY bS;rw[n9];by_cases c:U.tup k∈es.map λp=>U.tup p.1
 ·rw[hJ c,h_ c];clear c
  induction es generalizing us with
  |nil=>
   rfl
  |cons q es ih=>
   cases us with
   |nil=>cases r
   |cons w us=>
    obtain⟨x,rr,e,h1,h2⟩:=r;cases e;rw[Ç,Ç,ĸ];refine aP.cons ?_ (ih h2);lia
 ·rw[hV c,hZ í,hZ c,ð];exact r.snoc p
theorem zh {k:List U}(h:(es.map (·.1)).Nodup):((eY es k b v).map (·.1)).Nodup:=by
 unfold eY;split
 ·rw[ñ];have:es.map ((λx=>x.1)∘λe=>if e.1=k then (e.1,e.2.1,v) else e)=es.map (·.1):=ö λe _=>by
   show (if e.1=k then (e.1,e.2.1,v) else e).1=e.1;split<;>rfl
  rw[this];exact h
 ·rename_i c;rw[ð,Ç];refine Ĳ.mpr ⟨h,by simp,?_⟩;intro x hx y hy e;rw[Ą.mp hy] at e;subst e;rw[n9] at c;grind
theorem uJ {k:List U}(h:∀e∈es,tf H e.1 e.2.1)(kb:tf H k b):∀e∈eY es k b v,tf H e.1 e.2.1:=by
 unfold eY;grind
theorem zi {k:List U}:eY es k b v≠[]:=by
 unfold eY;split
 ·rename_i c;intro z;cases es with
  |nil=>cases c
  |cons e es=>cases z
 ·simp
theorem KU {k v:U}(h:ks.length=us.length):(bS ks us k v).length<=us.length+1:=by
 unfold bS;split
 ·rw[ŋ];lia
 ·rw[ã];exact Ñ _
theorem xW.len (d:xW H a ks xs)(r:aP K H A us xs):ks.length=us.length:=by
 rcases d with⟨aV,_,rfl,rfl⟩|⟨es,_,_,rfl,rfl⟩
 ·rw[r.length,Ê,Ê]
 ·rw[r.length,Ê,Ê]
theorem T6 {k w:U}(mu:∀a,A a->Mu (H a))(ha:A a)(d:xW H a ks xs)(r:aP K H A us xs)(f:jd ks k=Z)(hk:Rp K H A k y)(hw:Rp K H A w v)(hl:us.length<Å){C:Hp->Prop}(hC:∀H',(∀b o,b≠a->H b=J o->H' b=J o)->mq K H' A (.dct (cq ks k) (bS ks us k w)) a->C H'):Y5 H a y v C:=by
 have ln:=d.len r;have l2:(bS ks us k w).length<=Å:=ą (KU ln) hl;have nt:∀b ys,H b=J (.tup ys)->b≠a:=λb ys h e=>by
  subst e;have:=mu b ha;rw[h] at this;exact this
 have fin:∀(o:HO) (zs:List V),xW _ a _ zs->aP K H A _ zs->mq K (bc H a o) A (.dct (cq ks k) _) a:=λo zs d' r'=>
  ⟨zs,d',l2,r'.re mu (λb o' nb z=>gX _ b o' (λy=>nb (y▸ha)) z) λb z=>.inl z⟩
 have YF:∀(es:List _) (kk:List U) (b:I),dR H a es->tf H kk b->k=.tup kk->y=.ref b->ks=es.map (λp=>.tup p.1)->xs=es.map (·.2.2)->Y5 H a y v C:=by
  rintro es kk b h kt rfl rfl rfl rfl;have le:es.length=us.length:=by grind
  refine .inr ⟨es,kk,b,h,rfl,kt,by lia,λep=>hC _ (gX _) (fin _ _ (.inr ⟨eY es kk b v,zi,?_,(p0 es v).symm,rfl⟩) (p5 hw r))⟩;have tp:∀c ys,H c=J (.tup ys)->bc H a (DN a ep (eY es kk b v)) c=J (.tup ys):=λc ys hc=>by rw[aG (nt c ys hc)];exact hc
  exact⟨.inl ⟨ep,aI⟩,zh h.nd,λe he=>(uJ h.key kt e he).to tp⟩
 unfold jd at f;rw[ž,ß,ß] at f;rcases d with⟨aV,h,e1,e2⟩|⟨es,n,h,e1,e2⟩
 ·rcases f with⟨f1,f2⟩|⟨f1,f2⟩
  ·obtain⟨q,rfl,rfl⟩:=Q_ f1 hk;subst e1 e2;have lk:aV.length=us.length:=by grind
   exact .inl ⟨_,.inl ⟨aV,q,h,rfl,by lia,rfl⟩,hC _ (gX _) (fin _ _ (.inl ⟨_,aI,(Il aV v).symm,rfl⟩) (Im hw r))⟩
  ·cases aV with
   |nil=>
    subst e1 e2;cases k<;>first|(cases f1)|skip
    rename_i kk;obtain⟨b,rfl,kt⟩:=mx f1 hk;exact YF [] kk b ⟨.inr ⟨rfl,h⟩,Ģ,(λe he=>by cases he)⟩ kt rfl rfl rfl rfl
   |cons p aV=>
    subst e1;rw[Ç,ĺ,ß] at f2;obtain⟨p1,p2⟩:=p;cases p1<;>cases f2.1
 ·rcases f with⟨f1,f2⟩|⟨f1,f2⟩
  ·exfalso;subst e1;cases es with
   |nil=>exact n rfl
   |cons p es=>rw[Ç,ĺ,ß] at f2;cases f2.1
  ·cases k<;>first|(cases f1)|skip
   rename_i kk;obtain⟨b,rfl,kt⟩:=mx f1 hk;exact YF es kk b h kt rfl rfl e1 e2
section
variable {o i e f value:Æ}{pos cO bW p1 p2:Pos}{b1 b2 b3:Bool}{m m1 m2 m3:Md}{g1 g2 g3:Ev->R (U×Ev)}{y:Str}
def gj:U->U->R U:=λu w=>match u with
 | .dct ks us=>if jd ks w=Z then (match bR ks us w with
  |some z=>.ok z
  |none=>.stk) else .stk
 |_=>.stk
theorem Ra (h:Pk K H A u v)(c:KS u=Z\/Ik u=Z):Rp K H A u v:=by
 cases u<;>first|(rcases c with c|c<;>cases c;done)|(exact h)
theorem FN {k:U}(f:jd ks k=Z):KS k=Z\/Ik k=Z:=by
 unfold jd at f;rw[ž,ß,ß] at f;rcases f with⟨f,_⟩|⟨f,_⟩
 ·exact .inl f
 ·cases k<;>first|(cases f)|exact .inr rfl
theorem mM (hu:X.A.units+64<Ò)(ha:DE X G o b1 m1 g1)(hb:DE X G i b2 m2 g2)(hs:HH i:=by intro _ _;rfl)(hm:m1=.P->b2=M:=by first|exact λ_=>rfl|exact λh=>nomatch h):DE X G (.Subscript o i pos) (b1||b2) .S (aS gj g1 g2):=⟨(FJ hu ha.un hb.un hs).to λY H Q h=>by
 have hp:fK X.K (λx y H Q=>∃a v,x=.ref a/\Pg H a y (J v)/\Q v H) .S gj:=λA H x y u w z Q hx hy mu e q=>by
  unfold gj at e;split at e;rotate_left
  ·cases e
  split at e
  ·rename_i fk;split at e
   ·rename_i z' hz;cases e;obtain⟨a,xs,rfl,d,l,r⟩:=hx;obtain⟨ov,g,q1,_⟩:=DY d r fk (Ra hy (FN fk));obtain⟨v,rfl,rp⟩:=q1 _ hz;exact⟨a,v,rfl,g,q v H (aN.refl _) rp⟩
   ·cases e
  ·cases e
 exact nP hp hm h⟩
def KW (f:Bool->Bool):U->U->R U:=λk u=>match u with
 | .dct ks us=>if jd ks k=Z then .ok (.bl (f (bR ks us k).isSome)) else .stk
 |_=>.stk
theorem Pj {f:Bool->Bool}:fK K (WZ f) .S (KW f):=λA H y x k u z Q hy hx mu e q=>by
 unfold KW at e;split at e;rotate_left
 ·cases e
 rename_i ks us;split at e
 ·rename_i fk;cases e;obtain⟨a,xs,rfl,d,l,r⟩:=hx;obtain⟨ov,g,q1,q2⟩:=DY d r fk (Ra hy (FN fk));refine⟨a,ov,rfl,g,?_⟩;have:ov.isSome=(bR ks us k).isSome:=by
   cases hz:bR ks us k with
   |none=>rw[q2 hz];rfl
   |some w=>grind
  rw[this];exact q _ H (aN.refl _) (show Rp K H A _ _ from gx)
 ·cases e
def iP (i:Nat)(g2 g3:Ev->R (U×Ev)):Ev->R (U×Ev):=λB=>match B[i]? with
 |some (J (.dct _ _))=>(g2 B).bind λk=>(g3 k.2).bind λx=>match x.2[i]? with
  |some (J (.dct ks us))=>if jd ks k.1=Z then .ok ((bR ks us k.1).getD x.1,x.2) else .stk
  |_=>.stk
 |_=>.stk
theorem Pl {K:È}(d:xW H a ks xs):T3 H a:=by
 rcases d with⟨aV,h,_⟩|⟨es,_,h,_⟩
 ·exact .inl (.inl ⟨aV,.inl h⟩)
 ·exact .inr ⟨es,h⟩
theorem yb (q:cz K G ZQ A B Y H)(h:B[j]? = J (J (.dct ks us))):∃a xs,Y[j]? = J (J (.ref a))/\xW H a ks xs/\us.length<=Å/\aP K H A us xs:=by
 obtain⟨v,h1,h2⟩:=q.slot j _ h;by_cases c:G.is j=Z
 ·rw[h_ c] at h2;obtain⟨a,rfl,_,_,_,t⟩:=h2;obtain⟨xs,d,l,r⟩:=t;exact⟨a,xs,h1,d,l,r⟩
 ·rw[hZ c] at h2;obtain⟨a,xs,rfl,_,d,l,r⟩:=h2;exact⟨a,xs,h1,d,l,r⟩
theorem n_ (hu:X.A.units+64<Ò)(he:DE X G e b1 m1 g1)(hf:DE X G f b2 m2 g2)(n1:m1≠.P:=by decide)(n2:m2≠.P:=by decide)(hN:X.N[j]? = J y:=by rfl)(hv:AN X.env.scope y:=by first|exact Or.inl rfl|exact Or.inr (Or.inl rfl)|exact Or.inr (Or.inr rfl))(hd:(y==("__debug__":Str))=M:=by decide)(jX:(y==("__classdict__":Str))=M:=by decide)(Mqq:M2 X (.Name y p1) "get" cO e f bW:=by exact⟨rfl,rfl,rfl,rfl⟩):DE X G (.Call (.Attribute (.Name y p1) "get" cO) [e,f] [] bW) (b1||b2) .S (iP j g1 g2):=⟨(KR hu (eN hN hv hd jX) he.un hf.un Mqq).to λY H Q h=>by
 obtain⟨ZQ,A,B,q,f⟩:=h;unfold iP at f;split at f
 ·rename_i ks0 us0 h0;obtain⟨a,xs0,s0,d0,_,_⟩:=yb q h0;obtain⟨⟨k,B1⟩,e1,f⟩:=f.bind;obtain⟨⟨x,B2⟩,e2,f⟩:=f.bind;split at f
  ·rename_i ks us h2;split at f
   ·rename_i fk;refine⟨.ref a,s0,a,rfl,Pl (K:=X.K) d0,ZQ,A,B,q,?_⟩;rw[e1];intro v1 H1 q1 x1 s1 qN;refine⟨ZQ,A,B1,q1,?_⟩;rw[e2];intro v2 H2 q2 x2 s2 yP;obtain⟨a',xs,s0',d,_,r⟩:=yb q2 h2;rw[s0] at s0';cases s0';obtain⟨ov,g,z1,z2⟩:=DY d r fk (qN.laterS q1 x2 n1);refine⟨ov,g,f _ H2 q2 (x1.trans x2) (two s1 s2) ?_⟩;cases hz:bR ks us k with
    |none=>rw[z2 hz];exact yP.rp n2
    |some w=>obtain⟨v,rfl,rp⟩:=z1 _ hz;exact rp
   ·exact f.elim
  ·exact f.elim
 ·exact f.elim⟩
def iQ (i:Nat)(gv gk:Ev->R (U×Ev)):Ev->SR:=λB=>SR.of (gv B) λx=>if Kx x.2 i=Z then SR.of (gk x.2) λy=>match y.2[i]? with
 |some (J (.dct ks us))=>if jd ks y.1=Z/\us.length<Å then .nx (y.2.set i (J (.dct (cq ks y.1) (bS ks us y.1 x.1)))) else .stk
 |_=>.stk
 else .stk
theorem og (hu:X.A.units+64<Ò)(hv:DE X G value b1 m1 g1)(hk:DE X G i b2 m2 g2)(n1:m1≠.P:=by decide)(n2:m2≠.P:=by decide)(hN:X.N[j]? = J y:=by rfl)(QL:AN X.env.scope y:=by first|exact Or.inl rfl|exact Or.inr (Or.inl rfl)|exact Or.inr (Or.inr rfl))(c:G.is j=Z:=by rfl)(hd:(y==("__debug__":Str))=M:=by decide)(jX:(y==("__classdict__":Str))=M:=by decide)(hs:Ē value (J (.Subscript (.Name y p1) i pos')) pos.line X.env=pure M:=by rfl):DS X G m (.Assign [.Subscript (.Name y p1) i pos'] value pos) (iQ j g1 g2):=⟨(zg hu (eN hN QL hd jX) hk.un hv.un hs).to λD Y H h00=>by
 obtain⟨ZQ,A,B,q,f⟩:=h00;obtain⟨⟨w,B1⟩,e1,f⟩:=f.of;refine⟨ZQ,A,B,q,?_⟩;rw[e1];intro v H1 q1 x1 s1 vm;split at f
 ·rename_i hl;obtain⟨u00,hu0⟩:=y9 hl;obtain⟨a0,h0,_⟩:=q1.own c hu0;obtain⟨⟨k,B2⟩,e2,f⟩:=f.of;refine⟨.ref a0,h0,ZQ,A,B1,q1,?_⟩;rw[e2];intro v2 H2 q2 x2 s2 yP;split at f
  ·rename_i ks us Zf;split at f
   ·rename_i fk;obtain⟨a0',k1,k2,_,_,k5⟩:=q2.own c Zf;rw[h0] at k1;cases k1;obtain⟨xs,d,_,r⟩:=k5;exact⟨a0,rfl,T6 q2.mu k2 d r fk.1 (yP.rp n2) ((vm.rp n1).re q1.mu x2 λb z=>.inl z) fk.2 λH' em t=>f A Y H' (q2.put c Zf h0 em t)⟩
   ·exact f.elim
  ·exact f.elim
 ·exact f.elim⟩
end
end L2
namespace L2
section
variable {pos:Pos}
theorem Bo {xs:List V}{us:List d}(r:aZ xs us):∀n:Nat,aZ (ù n xs).flatten (ù n us).flatten
 |0=>.nil
 |n+1=>by
  exact r.append (Bo r n)
def FO {α:Type}(xs:List α)(n:Nat):(ù n xs).flatten.length=xs.length*n:=by
 simp[Nat.mul_comm]
theorem FP {H:Hp}{A:I->Prop}{us:List U}{xs:List V}(r:aP K H A us xs):∀n:Nat,aP K H A (ù n us).flatten (ù n xs).flatten
 |0=>aP.nil
 |n+1=>by
  exact r.append (FP r n)
end
@[irreducible] noncomputable def T7 (X:Cx)(G:Gm)(es:List Æ)(b p:Bool)(g:Ev->R (List U×Ev)):Prop:=DA X G es b p g
section
variable {e:Æ}{es:List Æ}{b1 b2 p:Bool}{m1:Md}{g1:Ev->R (U×Ev)}
def VD (h:T7 X G es b1 p ga):DA X G es b1 p ga:=by unfold T7 at h;exact h
def lD:T7 X G [] M p ar:=by unfold T7;exact ai
def bg (ha:DE X G e b1 m1 g1)(hr:T7 X G es b2 p ga)(hm:m1=.P->(p=Z/\b2=M):=by first|exact λ_=>⟨rfl,rfl⟩|exact λh=>nomatch h)
  (hs:Î (e::es) X.env=(M,Í e X.env)::Î es X.env:=by rfl):T7 X G (e::es) (b1||b2) p (ag g1 ga):=by
 unfold T7 at hr |-;exact af ha hr hm hs
end
end L2
namespace Hc.Zp
def dW (l:Bool)(h:É)(a:I)(xs:Array d):Prop:=if l=Z then h.IsList a xs else h.IsTuple a xs
def cP (l:Bool)(h:É)(it a:I)(i:Nat):Prop:=if l=Z then h.IsListIter it a i else h.IsTupleIter it a i
noncomputable def Io (l:Bool):String:=if l=Z then "list_iterator" else "tuple_iterator"
theorem dW.at {xs:Array d}(x:dW l h a xs)(e:∀o,h.get? a=J o->h'.get? a=J o):dW l h' a xs:=by
 cases l with
 |true=>exact Heap.IsList.at x e
 |false=>exact Heap.IsTuple.at x e
theorem cP.at (x:cP l h it a i)(e:∀o,h.get? it=J o->h'.get? it=J o):cP l h' it a i:=by
 cases l with
 |true=>exact Heap.IsListIter.at x e
 |false=>exact Heap.IsTupleIter.at x e
theorem cP.obj (x:cP l h it a i):∃o,h.get? it=J o/\o.data=.fields #[.ref a,.int i 0]/\o.cls=.type (Io l):=by
 cases l with
 |true=>obtain⟨o,e,c,d⟩:=x;exact⟨o,e,d,c⟩
 |false=>obtain⟨o,e,c,d⟩:=x;exact⟨o,e,d,c⟩
section
variable {A:Ð}
theorem DZ {xs:Array d}{x:d}(hi:s.heap.IsTupleIter it a i)(ha:s.heap.IsTuple a xs)(hx:xs[i]? = J x)(q:∀h',h'.IsTupleIter it a (i+1)->Ļ it s.heap h'->Q x {s with heap:=h'}):Á (Ä prog w) A (ϋ (.ref it)) Q E s:=by
 obtain⟨o,ho,hc,hd⟩:=id hi;obtain⟨oa,hoa,_,na,hda⟩:=ha;refine t (ę hi.typeIs ο (û ο hi.typeIs aff ?_ (ae5 _)));show Á _ _ (field _ 0 >>= _) _ _ s;refine t (ï ho hd rfl ?_);refine t (ï ho hd rfl ?_);refine t (Ġ hoa hda ?_);simp only[ĝ,hx];refine t (ŕ ho hd (by simp) (Â ⟨x,rfl,Â (q _ ⟨_,Ō _ ho (ϧ (Ų hd _)),(Ϩ ..).trans hc,?_⟩ (ţ ..))⟩));rw[Ų hd];simp[rawInt]
theorem Iq {xs:Array d}(hh:A.handled=L)(hi:s.heap.IsTupleIter it a i)(ha:s.heap.IsTuple a xs)(hx:xs[i]? = L)(q:∀h' e,Heap.ExtBut it s.heap h'->(∃o,h'.get? e=J o/\o.cls=.type "StopIteration")->E (.ref e) {s with heap:=h'}):Á (Ä prog w) A (ϋ (.ref it)) Q E s:=by
 obtain⟨o,ho,hc,hd⟩:=id hi;obtain⟨oa,hoa,_,na,hda⟩:=ha;refine t (ę hi.typeIs ο (û ο hi.typeIs aff ?_ (ae5 _)));show Á _ _ (field _ 0 >>= _) _ _ s;refine t (ï ho hd rfl ?_);refine t (ï ho hd rfl ?_);refine t (Ġ hoa hda ?_);simp only[ĝ,hx];refine t (İ (t (ŕ ho hd (by simp) ?_)));refine t ?_;refine t (m:=Ν _ _) (Ο (by rfl) ?_);refine Į ?_ (by size_fits);refine t (wpAny_handled ?_)
 first|rw[hh]|rw[hh]
 exact t (Â (wpAny_throw (q _ _ (((ţ ..).extBut.push _).push _) ⟨_,Ü _ rfl,rfl⟩)))
theorem fM {xs:Array d}{x:d}(hi:cP l s.heap it a i)(ha:dW l s.heap a xs)(hx:xs[i]? = J x)(q:∀h',cP l h' it a (i+1)->Ļ it s.heap h'->Q x {s with heap:=h'}):Á (Ä prog w) A (ϋ (.ref it)) Q E s:=by
 cases l with
 |true=>exact wpAny_nextOf_list_item hi ha hx q
 |false=>exact DZ hi ha hx q
theorem kA {xs:Array d}(hh:A.handled=L)(hi:cP l s.heap it a i)(ha:dW l s.heap a xs)(hx:xs[i]? = L)(q:∀h' e,Heap.ExtBut it s.heap h'->(∃o,h'.get? e=J o/\o.cls=.type "StopIteration")->E (.ref e) {s with heap:=h'}):Á (Ä prog w) A (ϋ (.ref it)) Q E s:=by
 cases l with
 |true=>exact wpAny_nextOf_list_end hh hi ha hx q
 |false=>exact Iq hh hi ha hx q
theorem oh {xs:Array d}(ha:dW l s.heap a xs)(q:Q (.ref s.heap.objs.size) {s with heap:=s.heap.push {cls:=.type (Io l),data:=.fields #[.ref a,.int 0 0]}}):Á (Ä prog w) A (pyIter (.ref a)) Q E s:=by
 cases l with
 |true=>exact Κ ha q
 |false=>exact wpAny_pyIter_tuple ha q
def Ir {l1 l2:Bool}{z:I}{k:Nat}{xs:Array d}{x y p:d}(D:ZipApart z uI uO i1 i2 a1 a2)(hz:IsZip s.heap z uI uO .none)(JC:ë s.heap uI (.ref i1) (.ref i2))(QM:ë s.heap uO p q)(h1:cP l1 s.heap i1 a1 k)(h2:cP l2 s.heap i2 a2 k)(g1:dW l1 s.heap a1 xs)(g2:dW l2 s.heap a2 ys)(hx:xs[k]? = J x)(hy:ys[k]? = J y)(hQ:∀h',IsZip h' z uI uO (rawInt s.heap.objs.size)->ë h' uO x y->cP l1 h' i1 a1 (k+1)->cP l2 h' i2 a2 (k+1)->ë h' s.heap.objs.size x y->(∀c o,c≠z->c≠uO->c≠i1->c≠i2->s.heap.get? c=J o->h'.get? c=J o)->Q (.ref s.heap.objs.size) {s with heap:=h'}) :
  Á (Ä prog w) A (Builtin.«zip.__next__» ⟨[.ref z],[]⟩) (λfin s'=>∃v,fin=.done (.ret v)/\Q v s') E s:=by
 show Á _ _ (field _ 2 >>= _) _ _ _;refine t (ï hz rfl rfl ?_);refine t (ï hz rfl rfl (t (Ġ JC rfl ?_)));refine t ?_;refine t (ï hz rfl rfl (Â ?_));refine t (İ (t (ï hz rfl rfl (t (đ hz (by simp) λw1 z1 b1=>?_)))));refine t ?_;refine t (t (wpAny_onRaise ?_));refine t (fM (h1.at λo e=>b1.extBut _ _ D.i1z e) (g1.at λo e=>b1.extBut _ _ D.l1z e) hx λw2 n2 b2=>Â ?_);have t2:=b2.extBut _ _ D.TOi1 (b1.extBut _ _ D.TOz QM);refine t (Ġ t2 rfl (t (Ϗ t2 λw3 t3 b3=>?_)));refine t (wpAny_letGo (Â ?_));refine t (t (wpAny_onRaise ?_));refine t (fM (h2.at λo e=>b3.extBut _ _ D.TOi2.symm (b2.extBut _ _ D.i12.symm (b1.extBut _ _ D.i2z e))) (g2.at λo e=>b3.extBut _ _ D.l2TO (b2.extBut _ _ D.l2i1 (b1.extBut _ _ D.l2z e))) hy λw4 n4 b4=>Â ?_);have t4:=b4.extBut _ _ D.TOi2 t3;refine t (Ġ t4 rfl (t (Ϗ t4 λw5 t5 b5=>?_)))
 replace t5:ë w5 uO x y:=t5
 refine t (wpAny_letGo (Â (Â ?_)));refine t (Ġ t5 rfl (t (wpAny_newTuple ?_)));have sz:w5.objs.size=s.heap.objs.size:=by rw[b5.1,b4.1,b3.1,b2.1,b1.1]
 have z5:=b5.extBut _ _ D.TOz.symm (b4.extBut _ _ D.i2z.symm (b3.extBut _ _ D.TOz.symm (b2.extBut _ _ D.i1z.symm z1)));have kp:∀c o,c≠z->c≠uO->c≠i1->c≠i2->s.heap.get? c=J o->w5.get? c=J o:=λc o c1 c2 c3 c4 e=>b5.extBut _ _ c2 (b4.extBut _ _ c4 (b3.extBut _ _ c2 (b2.extBut _ _ c3 (b1.extBut _ _ c1 e))));have n5:=n2.at λo e=>b5.extBut _ _ D.TOi1.symm (b4.extBut _ _ D.i12 (b3.extBut _ _ D.TOi1.symm e));have m5:=n4.at λo e=>b5.extBut _ _ D.TOi2.symm e;have lz:=Ô z5;refine t ?_;have z6:IsZip (w5.push {cls:=.type "tuple",data:=.seq #[x,y]}) z uI uO .ellipsis:=Ó _ z5;refine t (đ z6 (by simp) λw7 z7 b7=>?_);refine đ z7 (by simp) λw8 z8 b8=>?_;have up:∀c o,c≠z->w5.get? c=J o->w8.get? c=J o:=λc o c1 e=>b8.extBut _ _ c1 (b7.extBut _ _ c1 (Ó _ e));have t8:=b8.extBut _ _ (ò lz) (b7.extBut _ _ (ò lz) (Ü _ rfl));rw[sz] at z8 t8;refine Â ⟨_,rfl,?_⟩;rw[sz];exact hQ w8 z8 (up _ _ D.TOz t5) (n5.at λo e=>up _ o D.i1z e) (m5.at λo e=>up _ o D.i2z e) t8 λc o c1 c2 c3 c4 e=>up c o c1 (kp c o c1 c2 c3 c4 e)
theorem KY {l1 l2:Bool}{z:I}{k:Nat}{xs:Array d}{p:d}{Q:Fin->À->Prop}(hh:A.handled=L)(D:ZipApart z uI uO i1 i2 a1 a2)(hz:IsZip s.heap z uI uO .none)(JC:ë s.heap uI (.ref i1) (.ref i2))(QM:ë s.heap uO p q)(h1:cP l1 s.heap i1 a1 k)(h2:cP l2 s.heap i2 a2 k)(g1:dW l1 s.heap a1 xs)(g2:dW l2 s.heap a2 ys)(CM:xs[k]? = L\/ys[k]? = L)(hE:∀h' e,(∀c o,c≠z->c≠uO->c≠i1->c≠i2->s.heap.get? c=J o->h'.get? c=J o)->(∃o,h'.get? e=J o/\o.cls=.type "StopIteration")->E (.ref e) {s with heap:=h'}) :
  Á (Ä prog w) A (Builtin.«zip.__next__» ⟨[.ref z],[]⟩) Q E s:=by
 show Á _ _ (field _ 2 >>= _) _ _ _;refine t (ï hz rfl rfl ?_);refine t (ï hz rfl rfl (t (Ġ JC rfl ?_)));refine t ?_;refine t (ï hz rfl rfl (Â ?_));refine t (İ (t (ï hz rfl rfl (t (đ hz (by simp) λw1 z1 b1=>?_)))));refine t ?_;refine t (t (wpAny_onRaise ?_));cases hx:xs[k]? with
 |none=>
  refine t (kA hh (h1.at λo e=>b1.extBut _ _ D.i1z e) (g1.at λo e=>b1.extBut _ _ D.l1z e) hx λw2 e b2 he=>?_);obtain⟨oe,hoe,hce⟩:=he;have z2:=b2 _ _ D.i1z.symm z1;have nz:e≠z:=λx=>by lia
  exact đ z2 (by simp) λw3 _ b3=>hE w3 e (λc o c1 _ c3 _ x=>b3.extBut _ _ c1 (b2 _ _ c3 (b1.extBut _ _ c1 x))) ⟨oe,b3.extBut _ _ nz hoe,hce⟩
 |some x=>
  have hy:ys[k]? = L:=by lia
  refine t (fM (h1.at λo e=>b1.extBut _ _ D.i1z e) (g1.at λo e=>b1.extBut _ _ D.l1z e) hx λw2 n2 b2=>Â ?_);have t2:=b2.extBut _ _ D.TOi1 (b1.extBut _ _ D.TOz QM);refine t (Ġ t2 rfl (t (Ϗ t2 λw3 t3 b3=>?_)));refine t (wpAny_letGo (Â ?_));refine t (t (wpAny_onRaise ?_));refine t (kA hh (h2.at λo e=>b3.extBut _ _ D.TOi2.symm (b2.extBut _ _ D.i12.symm (b1.extBut _ _ D.i2z e))) (g2.at λo e=>b3.extBut _ _ D.l2TO (b2.extBut _ _ D.l2i1 (b1.extBut _ _ D.l2z e))) hy λw4 e b4 he=>?_);obtain⟨oe,hoe,hce⟩:=he;have z4:=b4 _ _ D.i2z.symm (b3.extBut _ _ D.TOz.symm (b2.extBut _ _ D.i1z.symm z1));have nz:e≠z:=λx=>by lia
  exact đ z4 (by simp) λw5 _ b5=>hE w5 e (λc o c1 c2 c3 c4 x=>b5.extBut _ _ c1 (b4 _ _ c4 (b3.extBut _ _ c2 (b2.extBut _ _ c3 (b1.extBut _ _ c1 x))))) ⟨oe,b5.extBut _ _ nz hoe,hce⟩
theorem yc {l1 l2:Bool}{z:I}{k:Nat}{xs:Array d}{x y p:d}{Q:Option d->À->Prop}(D:ZipApart z uI uO i1 i2 a1 a2)(hz:IsZip s.heap z uI uO .none)(JC:ë s.heap uI (.ref i1) (.ref i2))(QM:ë s.heap uO p q)(h1:cP l1 s.heap i1 a1 k)(h2:cP l2 s.heap i2 a2 k)(g1:dW l1 s.heap a1 xs)(g2:dW l2 s.heap a2 ys)(hx:xs[k]? = J x)(hy:ys[k]? = J y)(hQ:∀h',IsZip h' z uI uO (rawInt s.heap.objs.size)->ë h' uO x y->cP l1 h' i1 a1 (k+1)->cP l2 h' i2 a2 (k+1)->ë h' s.heap.objs.size x y->(∀c o,c≠z->c≠uO->c≠i1->c≠i2->s.heap.get? c=J o->h'.get? c=J o)->Q (J (.ref s.heap.objs.size)) {s with heap:=h'}) :
  Á (Ä prog w) A (pyNext (.ref z)) Q E s:=by
 have hT:s.TypeIs (.ref z) "zip":=⟨_,hz,rfl⟩;exact t (Ě (ę hT Ŏ (û Ŏ hT F.entry_zip_next (Ir D hz JC QM h1 h2 g1 g2 hx hy λh' c1 c2 c3 c4 c5 c6=>Â (hQ h' c1 c2 c3 c4 c5 c6)) (F.args_zip_next_1 _))))
theorem yd {l1 l2:Bool}{z:I}{k:Nat}{xs:Array d}{p:d}{Q:Option d->À->Prop}(hh:A.handled=L)(D:ZipApart z uI uO i1 i2 a1 a2)(hz:IsZip s.heap z uI uO .none)(JC:ë s.heap uI (.ref i1) (.ref i2))(QM:ë s.heap uO p q)(h1:cP l1 s.heap i1 a1 k)(h2:cP l2 s.heap i2 a2 k)(g1:dW l1 s.heap a1 xs)(g2:dW l2 s.heap a2 ys)(CM:xs[k]? = L\/ys[k]? = L)(hQ:∀h',(∀c o,c≠z->c≠uO->c≠i1->c≠i2->s.heap.get? c=J o->h'.get? c=J o)->Q L {s with heap:=h'}):Á (Ä prog w) A (pyNext (.ref z)) Q E s:=by
 have hT:s.TypeIs (.ref z) "zip":=⟨_,hz,rfl⟩;refine t (Ě (ę hT Ŏ (û Ŏ hT F.entry_zip_next (KY hh D hz JC QM h1 h2 g1 g2 CM λh' e hk ⟨o,ho,hc⟩=>?_) (F.args_zip_next_1 _))));exact t (ň ⟨o,ho,hc⟩ ť (Â (hQ _ hk)))
end
abbrev VE (l1:Bool)(h:É)(a1:I):É:=h.push {cls:=.type (Io l1),data:=.fields #[.ref a1,.int 0 0]}
abbrev ZY (l1 l2:Bool)(h:É)(a1 a2:I):É:=(VE l1 h a1).push {cls:=.type (Io l2),data:=.fields #[.ref a2,.int 0 0]}
abbrev ZZ (l1 l2:Bool)(h:É)(a1 a2:I):É:=(ZY l1 l2 h a1 a2).push {cls:=.type "tuple",data:=.seq #[.ref h.objs.size,.ref (VE l1 h a1).objs.size]}
abbrev Z0 (l1 l2:Bool)(h:É)(a1 a2:I):É:=(ZZ l1 l2 h a1 a2).push {cls:=.type "tuple",data:=.seq #[.none,.none]}
abbrev VF (l1 l2:Bool)(h:É)(a1 a2:I):É:=(Z0 l1 l2 h a1 a2).push {cls:=.type "zip",data:=.fields #[.none,.bool M,.bool M,.ref (ZY l1 l2 h a1 a2).objs.size,.ref (ZZ l1 l2 h a1 a2).objs.size]}
theorem KZ (l1 l2:Bool)(a1 a2:I)(xs ys:Array Ì):Meets (Builtin.«zip.__new__» ⟨[.type "zip",.ref a1,.ref a2],[]⟩) (λ_ R s=>dW l1 s.heap a1 xs/\dW l2 s.heap a2 ys/\R (.ok (.ret (.ref (Z0 l1 l2 s.heap a1 a2).objs.size))) {s with heap:=VF l1 l2 s.heap a1 a2}):=
 .of_wp λprog w A R s h=>by
  obtain⟨hp,g,d,tk,os⟩:=s;obtain⟨g1,g2,h⟩:=h;have sb:=sub_zip;have q1:=g1;have q2:dW l2 (Shared.heap ⟨hp.push {cls:=.type (Io l1),data:=.fields #[.ref a1,.int 0 0]},g,d,tk,os⟩) a2 ys:=g2.at λo e=>Ó _ e;wp_walk using oh q1,oh q2;exact⟨_,rfl,h⟩
section
variable {A:Ð}
theorem ye {l1 l2:Bool}{xs:Array d}(g1:dW l1 s.heap a1 xs)(g2:dW l2 s.heap a2 ys)(h:∀h',IsZip h' (s.heap.objs.size+4) (s.heap.objs.size+2) (s.heap.objs.size+3) .none->ë h' (s.heap.objs.size+2) (.ref s.heap.objs.size) (.ref (s.heap.objs.size+1))->ë h' (s.heap.objs.size+3) .none .none->
   cP l1 h' s.heap.objs.size a1 0->cP l2 h' (s.heap.objs.size+1) a2 0->(∀c o,s.heap.get? c=J o->h'.get? c=J o)->Q (.ref (s.heap.objs.size+4)) {s with heap:=h'}):Á (Ä prog w) A (call (.type "zip") [.ref a1,.ref a2]) Q E s:=by
 refine callType_new F.called_zip (by decide) (F.typeCall_zip_2 _ _) (F.newCall_zip_2 _ _) (λobj=>F.args_object_init_3 obj _ _) F.entry_zip_new (KZ l1 l2 a1 a2 xs ys) ⟨g1,g2,?_⟩;have z1:(VE l1 s.heap a1).objs.size=s.heap.objs.size+1:=Ī ..;have z2:(ZY l1 l2 s.heap a1 a2).objs.size=s.heap.objs.size+2:=by rw[Ī,z1]
 have z3:(ZZ l1 l2 s.heap a1 a2).objs.size=s.heap.objs.size+3:=by rw[Ī,z2]
 have z4:(Z0 l1 l2 s.heap a1 a2).objs.size=s.heap.objs.size+4:=by rw[Ī,z3]
 have e5:(VF l1 l2 s.heap a1 a2).get? _=J _:=Ü _ rfl;have e4:(VF l1 l2 s.heap a1 a2).get? _=J _:=Ó _ (Ü _ rfl);have e3:(VF l1 l2 s.heap a1 a2).get? _=J _:=Ó _ (Ó _ (Ü _ rfl));have e2:(VF l1 l2 s.heap a1 a2).get? _=J _:=Ó _ (Ó _ (Ó _ (Ü _ rfl)));have e1:(VF l1 l2 s.heap a1 a2).get? _=J _:=Ó _ (Ó _ (Ó _ (Ó _ (Ü _ rfl))));rw[z2,z3,z4] at e5;rw[z1,z2] at e3;rw[z3] at e4;rw[z1] at e2;rw[z4];have mk:∀(l:Bool) (hp:É) (it a:I) (_:hp.get? it=J {cls:=.type (Io l),data:=.fields #[.ref a,.int 0 0]}),cP l hp it a 0:=λl hp it a e=>by
  cases l with
  |true=>exact⟨_,e,rfl,rfl⟩
  |false=>exact⟨_,e,rfl,rfl⟩
 exact⟨⟨_,e5,rfl⟩,h _ e5 e3 e4 (mk l1 _ _ _ e1) (mk l2 _ _ _ e2) λc o x=>Ó _ (Ó _ (Ó _ (Ó _ (Ó _ x))))⟩
end
end Hc.Zp
namespace L2
open Hc.Zp
section
variable {T:I}
theorem aO.turnNew {t':Nat}(I:aO X pins Y H s)(hf:∀b∈fp,sd X pins H b)(k:∀b o,b∉fp->s.heap.get? b=J o->h'.get? b=J o)(hT:s.heap.objs.size<=T)(new:c8 X.prog X.w (bc H T o) h' T o) :
  aO X pins Y (bc H T o) {s with heap:=h',toks:=t'}:=by
 have hn:=I.hok.fresh hT;have nf:∀b u,H b=J u->b∉fp:=λb u e z=>by rw[(hf b z).1] at e;cases e
 have nT:∀b u,H b=J u->b≠T:=λb u e z=>by lia
 refine I.step (λb hb=>?_) (λb o _ _ hc e _=>k b o hc e) (λb o _ _ hc e _=>⟨o.slots,k b o hc e⟩) (λb o _ e n=>?_) (λb o hc e=>⟨o,k b o hc e⟩)
  (λb xs e=>?_) (λb o u e=>?_) (λb ps e=>⟨#[],?_⟩) (λm hm=>?_) (λb u e=>?_) I.bare
 ·obtain⟨f0,f1,f2,f3,f4,f5⟩:=hf b hb;exact⟨f3,f1,f4,f5⟩
 ·rw[aG (Þ (ď (Ô e) hT))];exact n
 ·rw[aG (nT b _ e)];exact e
 ·rw[aG (nT b _ e)];exact e
 ·simp_all[aG]
 ·obtain⟨o,es,ep,ho,r⟩:=hm;exact⟨o,es,ep,k _ o (λz=>(hf _ z).2.1 rfl) ho,r⟩
 ·by_cases c:b=T
  ·simp_all[aI]
  ·rw[aG c] at e;refine (I.hok b u e).stay (λc v hc q=>k c v ?_ q) (λc q=>by rw[aG (nT c _ q)];exact q) λc xs q=>by rw[aG (nT c _ q)];exact q
   grind
theorem aO.turneds {t':Nat}(I:aO X pins Y H s)(hf:∀b∈fp,sd X pins H b)(k:∀b o,b∉fp->s.heap.get? b=J o->h'.get? b=J o):aO X pins Y H {s with heap:=h',toks:=t'}:=by
 have nf:∀b u,H b=J u->b∉fp:=λb u e z=>by rw[(hf b z).1] at e;cases e
 refine I.step (λb hb=>?_) (λb o _ _ hc e _=>k b o hc e) (λb o _ _ hc e _=>⟨o.slots,k b o hc e⟩) (λb o _ e n=>n) (λb o hc e=>⟨o,k b o hc e⟩)
  (λb xs e=>e) (λb o u e=>e) (λb ps e=>⟨#[],by rw[e];simp⟩) (λm hm=>?_) (λb u e=>?_) I.bare
 ·obtain⟨f0,f1,f2,f3,f4,f5⟩:=hf b hb;exact⟨f3,f1,f4,f5⟩
 ·obtain⟨o,es,ep,ho,r⟩:=hm;exact⟨o,es,ep,k _ o (λz=>(hf _ z).2.1 rfl) ho,r⟩
 ·refine (I.hok b u e).stay (λc v hc q=>k c v ?_ q) (λ_ q=>q) λ_ _ q=>q;grind
def zj (l:Bool)(K:È)(H:Hp)(a:I)(xs:List V):Prop:=if l=Z then fG K H a xs else gR K H a xs
theorem aO.sq (I:aO X pins Y H s)(q:zj l X.K H a xs):∃aH,aZ xs aH/\dW l s.heap a aH.toArray:=by
 cases l with
 |true=>obtain⟨aH,rv,p,_⟩:=I.list q;exact⟨aH,rv,p.isList⟩
 |false=>obtain⟨aH,rv,p,_⟩:=I.tuple q;exact⟨aH,rv,p⟩
theorem aO.sq_inj {ys:List V}(I:aO X pins Y H s)(q:zj l X.K H a xs)(q':zj l X.K H a ys):xs=ys:=by
 cases l with
 |true=>exact I.list_inj q q'
 |false=>exact I.tuple_inj q q'
end
def Itz (K:È)(l1 l2:Bool)(a1 a2:I):It:=
  ⟨λi H=>∃xs ys x y,zj l1 K H a1 xs/\zj l2 K H a2 ys/\xs[i]? = J x/\ys[i]? = J y,
   λi H v H'=>∃T x y,v=.ref T/\H T=L/\H'=bc H T (.tup [x,y])/\(∀xs,zj l1 K H a1 xs->xs[i]? = J x)/\(∀ys,zj l2 K H a2 ys->ys[i]? = J y),
   λi H=>∃xs ys,zj l1 K H a1 xs/\zj l2 K H a2 ys/\(xs.length<=i\/ys.length<=i)⟩
theorem K0 {l1 l2:Bool}{z:Ý}(D:ZipApart z uI uO i1 i2 a1 a2) :
  yT P w K (.Tuple elts kt tp) (Itz K l1 l2 a1 a2) [z,uI,uO,i1,i2] z (λi h=>IsZip h z uI uO .none/\ë h uI (.ref i1) (.ref i2)/\(∃p q,ë h uO p q)/\cP l1 h i1 a1 i/\cP l2 h i2 a2 i) where
 mem:=by simp
 obj:=λi h ⟨hz,hI,⟨p,q,hO⟩,h1,h2⟩ b hb=>by
  obtain⟨o1,e1,d1,_⟩:=h1.obj;obtain⟨o2,e2,d2,_⟩:=h2.obj;grind
 keep:=λi h h' ⟨hz,hI,⟨p,q,hO⟩,h1,h2⟩ k=>⟨k z (by simp) _ hz,k uI (by simp) _ hI,⟨p,q,k uO (by simp) _ hO⟩,h1.at λo e=>k i1 (by simp) o e,h2.at λo e=>k i2 (by simp) o e⟩
 item:=by
  intro X hP hw hK hc i pins s Y H E I hf st hg;subst hP hw hK;obtain⟨hz,hI,⟨p,q,hO⟩,h1,h2⟩:=st;obtain⟨xs,ys,x,y,q1,q2,hx,hy⟩:=hg;obtain⟨is1,v1,g1⟩:=I.sq q1;obtain⟨is2,v2,g2⟩:=I.sq q2;obtain⟨u1,Az,r1⟩:=v1.get hx;obtain⟨u2,YM,r2⟩:=v2.get hy;obtain⟨o1,e1,_,_⟩:=h1.obj;obtain⟨o2,e2,_,_⟩:=h2.obj;have lz:=Ô hz;have lI:=Ô hI;have lO:=Ô hO;have l1':=Ô e1;have l2':=Ô e2;refine yc D hz hI hO h1 h2 g1 g2 (by simpa using Az) (by simpa using YM) λh' c1 c2 c3 c4 c5 kp=>⟨_,rfl,?_⟩;refine wpAny_letOwnedTupleGo_zip c1 λQK z2 sb=>?_;have YG:=sb.extBut _ _ (ò lz) c5;have kp2:∀b o,b∉[z,uI,uO,i1,i2]->s.heap.get? b=J o->QK.get? b=J o:=λb o hb e=>by
   simp only[Ø,ϑ,or_false,not_or] at hb;exact sb.extBut _ _ hb.1 (kp b o hb.1 hb.2.2.1 hb.2.2.2.1 hb.2.2.2.2 e)
  have I2:aO X pins Y (bc H _ (.tup [x,y])) _:=I.turnNew (t':=s.toks) hf kp2 (Ñ _) ⟨by rw[Ĕ];simp,[u1,u2],.cons r1 (.cons r2 .nil),⟨_,YG,rfl,_,rfl⟩,_,YG⟩;have fr:=I.hok.fresh (Ñ _);refine⟨.ref _,_,I2,rfl,⟨_,x,y,rfl,fr,rfl,λzs hq=>by rw[I.sq_inj hq q1];exact hx,λzs hq=>by rw[I.sq_inj hq q2];exact hy⟩,⟨z2,?_,⟨u1,u2,?_⟩,?_,?_⟩,λb hb=>?_⟩
  ·exact sb.extBut _ _ D.TIz (kp _ _ D.TIz D.TITO D.TIi1 D.TIi2 hI)
  ·exact sb.extBut _ _ D.TOz c2
  ·exact c3.at λo e=>sb.extBut _ _ D.i1z e
  ·exact c4.at λo e=>sb.extBut _ _ D.i2z e
  ·have hn:b≠s.heap.objs.size:=by
    grind
   rw[aG hn];exact (hf b hb).1
 done:=by
  intro X hP hw hK hc i pins s Y H E I hf st hg;subst hP hw hK;obtain⟨hz,hI,⟨p,q,hO⟩,h1,h2⟩:=st;obtain⟨xs,ys,q1,q2,he⟩:=hg;obtain⟨is1,v1,g1⟩:=I.sq q1;obtain⟨is2,v2,g2⟩:=I.sq q2;have n1:=v1.length;have n2:=v2.length;refine yd (I.ok.hd hc) D hz hI hO h1 h2 g1 g2 (by
   rcases he with he|he
   ·exact .inl (by simp;lia)
   ·exact .inr (by simp;lia)) λh' kp=>⟨rfl,I.turneds hf λb o hb e=>?_⟩
  grind
 self:=λ_ _ _ _ _ st h=>wpAny_pyIter_zip st.1 h
section
variable {p pos:Pos}{a b:Æ}
def K1:Ĉ "zip"=J (.type "zip"):=by rfl
def Z1 (K:È)(ta:TA):TI:=λY H R=>ta Y H λvs H1=>∃l1 l2 a1 a2 xs ys,vs=[.ref a1,.ref a2]/\zj l1 K H1 a1 xs/\zj l2 K H1 a2 ys/\R (Itz K l1 l2 a1 a2) H1
theorem T8 (hg:Gl X "zip")(hm:X.mg "zip"=L)(ha:PA X [a,b] ta)(hs:Î [a,b] X.env=[(M,Í a X.env),(M,Í b X.env)]:=by rfl)(pG:Î [b] X.env=[(M,Í b X.env)]:=by rfl) :
  PI X (.Tuple elts kt tp) (.Call (.Name "zip" p) [a,b] [] pos) (Z1 X.K ta):=by
 intro pins s Y H R I h;refine Call_ (kg I hg hm K1 (š (c7 (ha pos pins s Y H _ I h) λus s1 ⟨vs,H1,I1,r1,q1⟩=>?_) (by rw[hs,pG]) (by rw[pG];rfl)));obtain⟨l1,l2,a1,a2,xs,ys,rfl,g1,g2,q⟩:=q1;cases r1 with
 |cons r rr=>
  cases rr with
  |cons r' rr=>
   cases rr;cases r;cases r';obtain⟨is1,v1,m1⟩:=I1.sq g1;obtain⟨is2,v2,m2⟩:=I1.sq g2;have lt:∀(l:Bool) (c:Ý) (zs:Array d),dW l s1.heap c zs->c<s1.heap.objs.size:=λl c zs hq=>by
    cases l with
    |true=>obtain⟨_,e,_⟩:=hq;exact Ô e
    |false=>obtain⟨_,e,_⟩:=hq;exact Ô e
   refine ye m1 m2 λh' z1 z2 z3 z4 z5 kp=>wpAny_pyIter_zip z1 ?_;refine⟨_,[s1.heap.objs.size+4,s1.heap.objs.size+2,s1.heap.objs.size+3,s1.heap.objs.size,s1.heap.objs.size+1],_,_,H1,rfl,I1.kept λb o e=>kp b o e,K0 (zipApart_new (lt l1 a1 _ m1) (lt l2 a2 _ m2)),⟨z1,z2,⟨_,_,z3⟩,z4,z5⟩,λb hb=>?_,q⟩;have hb:s1.heap.objs.size<=b:=by
    grind
   exact I1.fpOk hb (I1.hok.fresh hb)
end
noncomputable def Iu:U->Option (List U)
 | .lst us=>J us
 | .tup us=>J us
 |_=>L
def sx (ga:Ev->R (List U×Ev)):Ev->R (List U×Ev):=λB=>(ga B).bind λx=>match x.1 with
 | [u,w]=>match Iu u,Iu w with
  |some us,J ws=>.ok (Ā (λa b=>.tup [a,b]) us ws,x.2)
  |_,_=>.stk
 |_=>.stk
section
variable {p1 pos:Pos}{a b:Æ}{b1:Bool}
theorem uK (e:Iu u=J us)(h:Rp K H A u v):∃l a xs,v=.ref a/\us.length<=Å/\aP K H A us xs/\zj l K H a xs/\∀H',dP A H H'->(∀b,A b->Mu (H b))->zj l K H' a xs:=by
 unfold Iu at e;split at e;rotate_right
 ·cases e
 rotate_left
 ·cases e;obtain⟨a,xs,rfl,q,l,z⟩:=h;exact⟨M,a,xs,rfl,l,z,gR.of q,λH' x mu=>gR.of (x a _ (λy=>by have:=mu a y;rw[q] at this;exact this) q)⟩
 ·cases e;obtain⟨a,xs,rfl,na,q,l,z⟩:=h;exact⟨Z,a,xs,rfl,l,z,fG.of q,λH' x mu=>fG.of (x a _ na q)⟩
theorem zk (ha:DA X G [a,b] b1 M ga)(hm:X.mg "zip"=L)(hg:Gl X "zip":=by rfl)(hs:Î [a,b] X.env=[(M,Í a X.env),(M,Í b X.env)]:=by rfl)(pG:Î [b] X.env=[(M,Í b X.env)]:=by rfl) :
  DI X G (.Tuple elts kt tp) (.Call (.Name "zip" p1) [a,b] [] pos) b1 M (sx ga):=⟨(T8 hg hm ha.un hs pG).to λY H RR h00=>by
 obtain⟨ZQ,A,B,q,f⟩:=h00;unfold sx at f;cases e1:ga B with
 |stk=>rw[e1] at f;exact f.elim
 |exc=>rw[e1] at f;exact f.elim
 |ok y=>
  obtain⟨us,B1⟩:=y;rw[e1] at f;dsimp only[L2.R.bind] at f;refine⟨ZQ,A,B,q,?_⟩;rw[e1];intro vs H1 q1 x1 s1 vm;split at f
  ·rename_i Om B' e2;split at e2
   ·split at e2
    ·rename_i as bs ea eb;cases e2;have r:=vm.rps;obtain⟨v,vr,rfl,r1,r2⟩:=r;obtain⟨v',vr',rfl,r3,r4⟩:=r2;subst r4;obtain⟨l1,a1,xs,rfl,n1,z1,k1,AB⟩:=uK ea r1;obtain⟨l2,a2,ys,rfl,n2,z2,k2,nB⟩:=uK eb r3;refine⟨l1,l2,a1,a2,xs,ys,rfl,k1,k2,f _ H1 q1 x1 s1 ⟨?_,λH2 A' hx CN=>?_⟩⟩
     ·rw[ŋ];exact ą (Nat.min_le_left _ _) n1
     ·have Vn:=AB H2 hx q1.mu;have s2':=nB H2 hx q1.mu;have w1:=z1.re q1.mu hx CN;have w2:=z2.re q1.mu hx CN;refine⟨λi u hu=>?_,⟨xs,ys,Vn,s2',?_⟩⟩
      ·rw[ϓ] at hu;cases hA:as[i]? with
       |none=>rw[hA] at hu;cases hu
       |some ua=>cases hB:bs[i]? with
        |none=>rw[hA,hB] at hu;cases hu
        |some ub=>
         rw[hA,hB] at hu;cases hu;obtain⟨x,QO,px⟩:=w1.get hA;obtain⟨y,hy1,py⟩:=w2.get hB;refine⟨⟨xs,ys,x,y,Vn,s2',QO,hy1⟩,λx' H' yl=>?_⟩;obtain⟨T,x2,y2,rfl,hT,rfl,g1,g2⟩:=yl;have ex:x2=x:=by have:=g1 xs Vn;rw[QO] at this;cases this;rfl
         have ey:y2=y:=by have:=g2 ys s2';rw[hy1] at this;cases this;rfl
         subst ex ey;have sm:=cY hT (.tup [x2,y2]);refine⟨sm,?_⟩;exact⟨T,_,rfl,aI,by have:Å=16777216:=rfl;rw[this];simp,aP.cons (px.same sm) (aP.cons (py.same sm) aP.nil)⟩
      ·rw[ŋ,<-z1.length,<-z2.length];lia
    ·cases e2
   ·cases e2
  lia⟩
end
end L2
namespace L2
section
variable {e:Æ}{pos p1 p2 p3 p4:Pos}{b1:Bool}{m1 m:Md}{g1:Ev->R (U×Ev)}{v:Option Æ}{w:Option Æ}
theorem uL {g:Ev->SR}(h:∀B,∃c u,g B=.exc c u)(hW:∀H,¬G.W H:=by exact λ_ h=>h):DS X G m (.Raise v w pos) g:=⟨λpins s Y H D I h00=>by
 obtain⟨ZQ,A,B,q,f⟩:=h00;obtain⟨c,u,e⟩:=h B;rw[e] at f;exact absurd (f H q.bas) (hW H)⟩
end
end L2
section
set_option maxHeartbeats 400000
namespace L2
open PySem PySem.Spec PyProof.Rows PySem.W
theorem Iv {K:Frag}{A0:I->Prop}(r:aP K H A0 us vs)(mu:∀a,A0 a->Mu (H a))(CV:G.io=M)(jY:∀i,i<us.length->G.is i=M):cz K G ⟨A0,H,0⟩ A0 (fB N.length us) (f6 N vs) H where
 slot:=λi u hu=>by
  have hu:=jB hu;obtain⟨v,h1,h2⟩:=r.get hu;refine⟨v,ja h1,?_⟩;rw[hZ (by rw[jY i (é.mp hu).1];exact í)];exact h2
 dis:=λi j u w a ci cj ne hi hj si sj=>by
  rw[jY i (é.mp (jB hi)).1] at ci;cases ci
 mu:=mu
 sup:=λa h=>h
 out:=λa h=>.inl h
 bas:=λa o h=>h
 io0:=λh=>by lia
 len:=zc r.length
def aN.updN (h:aN H H')(n:H' a=L):aN H (bc H' a o):=λb ob e=>by
 have q:=h b ob e;rw[aG (bM q n)];exact q
end L2
end
namespace L2
def nr {α:Sort _}{a b:α}(h:a=b):a=b:=h
noncomputable def look (o:Option (Option U))(B:Ev):R (U×Ev):=match o with
 |some (J u)=>.ok (u,B)
 |_=>.stk
noncomputable def asB (u:U)(B:Ev):R (Bool×Ev):=match u with
 | .bl c=>.ok (c,B)
 |_=>.stk
noncomputable def Y6 (o:Option U):R U:=match o with
 |some u=>.ok u
 |none=>.stk
noncomputable def SR.seq (r:SR)(g:Ev->SR):SR:=match r with
 | .nx B=>g B
 |r=>r
noncomputable def SR.turn (r:SR)(g:Ev->SR):SR:=match r with
 | .nx B=>g B
 | .ct B=>g B
 | .bk B=>.nx B
 |r=>r
noncomputable def W3 (m:Md)(r:SR):R U:=match r with
 | .rt u _=>.ok u
 | .nx _=>if m=.S then .ok .non else .stk
 | .exc c u=>.exc c u
 |_=>.stk
noncomputable def io0 (u:U)(o:Option (Option U)):R (U×U):=match o with
 |some (J w)=>.ok (u,w)
 |_=>.stk
def D0 (r:SR):R (U×U):=match r with
 | .rt u B=>io0 u B[0]?
 | .nx B=>io0 .non B[0]?
 | .exc c u=>.exc c u
 |_=>.stk
section
variable {w:U}{α β:Type}{g1 g2 g3:Ev->R (U×Ev)}{h h1 h2:Ev->R (Bool×Ev)}{s s1 s2:Ev->SR}{m:Md}{ws:List U}
def Rb:ah i B=look B[i]? B:=nr rfl
def K2:look (J (J u)) B=.ok (u,B):=nr rfl
def e_c:gC u B=.ok (u,B):=nr rfl
def D1 {a:α}{f:α->R β}:(R.ok a).bind f=f a:=nr rfl
def K3 {a:α}{f:α->SR}:SR.of (R.ok a) f=f a:=nr rfl
def W4 {p:U->U->R U}:aS p g1 g2 B=(g1 B).bind λx=>(g2 x.2).bind λy=>(p x.1 y.1).bind λz=>.ok (z,y.2):=nr rfl
def e_B:gB g B=(g B).bind λx=>asB x.1 x.2:=nr rfl
def Rf {c:Bool}:asB (.bl c) B=.ok (c,B):=nr rfl
def K4:OZ h1 h2 B=(h1 B).bind λx=>if x.1=Z then h2 x.2 else .ok (M,x.2):=nr rfl
def Rg:WK h1 h2 B=(h1 B).bind λx=>if x.1=Z then .ok (Z,x.2) else h2 x.2:=nr rfl
def K5:Ba h B=(h B).bind λx=>.ok (!x.1,x.2):=nr rfl
def Rh:TB g1 g2 B=(gB g1 B).bind λx=>if x.1=Z then g2 x.2 else .ok (.bl M,x.2):=nr rfl
def W5:Y1 g1 g2 B=(gB g1 B).bind λx=>if x.1=Z then .ok (.bl Z,x.2) else g2 x.2:=nr rfl
def W7 {p:U->R U}:gT p g B=(g B).bind λx=>(p x.1).bind λz=>.ok (z,x.2):=nr rfl
def K6:ar B=.ok ([],B):=nr rfl
def FT:ag g ga B=(g B).bind λx=>(ga x.2).bind λy=>.ok (x.1::y.1,y.2):=nr rfl
def K7:aU ga B=(ga B).bind λx=>if x.1.length<=Å then .ok (.tup x.1,x.2) else .stk:=nr rfl
def K8:eZ ga B=(ga B).bind λx=>if x.1.length<=Å then .ok (.lst x.1,x.2) else .stk:=nr rfl
def W8 {p:List U->R U}:iA p ga B=(ga B).bind λx=>(p x.1).bind λz=>.ok (z,x.2):=nr rfl
def W9 {f:List U->R U}:bq n f ga B=(ga B).bind λx=>(wQ n f x.1).bind λz=>.ok (z,x.2):=nr rfl
def Rk {f:List U->R α}(h:us.length=n):wQ n f us=f us:=h_ h
def ciB (n:Nat)(f:List U->R (U×U))(us:List U)(i:Nat)(B:Ev)(o:Option (Option U)):R (U×Ev):=match o with
 |some (J u0)=>(wQ n f (u0::us)).bind λz=>.ok (z.1,B.set i (J z.2))
 |_=>.stk
def Rl {f:List U->R (U×U)}:ciB n f us i B (J (J u))=(wQ n f (u::us)).bind λz=>.ok (z.1,B.set i (J z.2)):=nr rfl
noncomputable def FU (o:Option (Option U)):Bool:=match o with
 |some (J _)=>Z
 |_=>M
def FV:FU (J (J u))=Z:=nr rfl
def W_ {f:List U->R (U×U)}:HW n i f ga B=if FU B[i]? = Z then (ga B).bind λx=>ciB n f x.1 i x.2 x.2[i]? else .stk:=nr rfl
def Z2 (i:Nat)(p:U->List U->R (U×U))(us:List U)(B:Ev)(o:Option (Option U)):R (U×Ev):=match o with
 |some (J u0)=>(p u0 us).bind λz=>.ok (z.1,B.set i (J z.2))
 |_=>.stk
def Rm {p:U->List U->R (U×U)}:Z2 i p us B (J (J u))=(p u us).bind λz=>.ok (z.1,B.set i (J z.2)):=nr rfl
def gmA (T:String)(i:Nat)(p:U->List U->R (U×U))(ga:Ev->R (List U×Ev))(B:Ev)(o:Option (Option U)):R (U×Ev):=match o with
 |some (J u1)=>if y_ u1 T=Z then (ga B).bind λx=>Z2 i p x.1 x.2 x.2[i]? else .stk
 |_=>.stk
def Rn {T:String}{p:U->List U->R (U×U)}:gmA T i p ga B (J (J u))=if y_ u T=Z then (ga B).bind λx=>Z2 i p x.1 x.2 x.2[i]? else .stk:=nr rfl
def e_M {T:String}{p:U->List U->R (U×U)}:gM T i p ga B=gmA T i p ga B B[i]? := nr rfl
def K9:y_ (.lst us) "list"=Z:=nr rfl
def gY (T:String)(u:U)(B:Ev):R (U×Ev):=if Y4 u="script" then .stk else .ok (.bl (mj (Y4 u) T),B)
def La:cA B=.nx B:=nr rfl
def Rq:aJ s1 s2 B=(s1 B).seq s2:=nr rfl
def Lc:(SR.nx B).seq s=s B:=nr rfl
def Ld:(SR.rt u B).seq s=.rt u B:=nr rfl
def Rr:bb g B=SR.of (g B) λx=>.rt x.1 x.2:=nr rfl
def Rt:ba i g B=SR.of (g B) λx=>.nx (x.2.set i (J x.1)):=nr rfl
def Ru {sg:U->Ev->R Ev}:KA sg g B=SR.of (g B) λx=>SR.of (sg x.1 x.2) .nx:=nr rfl
def Rv:pE h s1 s2 B=SR.of (h B) λx=>if x.1=Z then s1 x.2 else s2 x.2:=nr rfl
def Y7 (i:Nat)(v k:U)(B:Ev)(o:Option (Option U)):SR:=match k with
 | .int k=>match o with
  |some (J (.lst us))=>match JF us.length k with
   |some j=>.nx (B.set i (J (.lst (us.set j v))))
   |none=>.stk
  |_=>.stk
 |_=>.stk
def Lj:nX i g1 g2 B=SR.of (g1 B) λx=>if FU x.2[i]? = Z then SR.of (g2 x.2) λy=>Y7 i x.1 y.1 y.2 y.2[i]? else .stk:=nr rfl
def Xc {k:Int}(h:JF us.length k=J j):Y7 i w (.int k) B (J (J (.lst us)))=.nx (B.set i (J (.lst (us.set j w)))):=by
 unfold Y7;dsimp only;rw[h]
def RA {gi:Ev->R (List U×Ev)}{sg:U->Ev->R Ev}:ff gi sg s B=SR.of (gi B) λx=>gU sg s x.1 x.2:=nr rfl
def Ll:gU sg s (u::us) B=SR.of (sg u B) λB1=>(s B1).turn (gU sg s us):=nr rfl
def F0:(SR.nx B).turn s=s B:=nr rfl
def F4:jz h s (n+1) B=SR.of (h B) λx=>if x.1=Z then (s x.2).turn (jz h s n) else .nx x.2:=nr rfl
noncomputable def Iw (u:U)(B:Ev):R (List U×Ev):=match u with
 | .lst us=>.ok (us,B)
 | .tup us=>.ok (us,B)
 | .scr us=>.ok (us,B)
 |_=>.stk
def Lm:d_ g B=(g B).bind λx=>Iw x.1 x.2:=nr rfl
def Ln:Iw (.lst us) B=.ok (us,B):=nr rfl
def D2:Iw (.tup us) B=.ok (us,B):=nr rfl
def T9 (us:List U)(B:Ev):R (List U×Ev):=match us with
 | [.int j]=>if -1000000<=j/\j<=1000000 then .ok (bK 0 j.toNat,B) else .stk
 |_=>.stk
def Lp:mw ga B=(ga B).bind λx=>T9 x.1 x.2:=nr rfl
def T_ {k:Int}:T9 [.int k] B=if -1000000<=k/\k<=1000000 then .ok (bK 0 k.toNat,B) else .stk:=nr rfl
def Lq (us:List U)(B:Ev):R (U×Ev):=match us with
 | [.int j]=>if DM 0 j=Z then .ok (.lst (bK 0 (j-0).toNat),B) else .stk
 |_=>.stk
def Lr:x_ ga B=(ga B).bind λx=>Lq x.1 x.2:=nr rfl
theorem Xf {k:Int}(h0:0<=k)(h1:k<=1000000):DM 0 k=Z:=by
 unfold DM;lia
theorem Pm (n:Nat)(h:n<=1000000):Lq [.int n] B=.ok (.lst (bK 0 n),B):=by
 unfold Lq;dsimp only;rw[h_ (Xf (by lia) (by lia)),show ((n:Int)-0).toNat=n by lia]
theorem zm (n:Nat)(h:n<=1000000):T9 [.int n] B=.ok (bK 0 n,B):=by
 rw[T_,h_ (by lia)];rfl
def RB {gi:Ev->R (List U×Ev)}{js:List (Option Nat)}{sg:U->Ev->R Ev}:fL gi js sg h g B=(gi B).bind λx=>(JG (HZ js sg h g x.2) x.1).bind λys=>.ok (.lst ys,x.2):=nr rfl
def RC {G:Gm}{gi:Ev->R (List U×Ev)}{js:List (Option Nat)}{sg:U->Ev->R Ev}:za G gi js sg h g B=(gi B).bind λx=>(pV G js sg h g x.1 x.2).bind λy=>.ok (.lst y.1,y.2):=nr rfl
def RD {js:List (Option Nat)}{sg:U->Ev->R Ev}:HZ js sg h g B u=(sg u (jA js B)).bind λBi=>(h Bi).bind λc=>if c.1=Z then (g Bi).bind λy=>.ok (J y.1) else .ok L:=nr rfl
def Lv:pV G js sg h g (u::us) B=(sg u (jA js B)).bind λBi=>(h Bi).bind λc=>if c.1=Z then (g c.2).bind λy=>(pV G js sg h g us (wb G js y.2 B)).bind λr=>.ok (y.1::r.1,r.2) else pV G js sg h g us (wb G js c.2 B):=nr rfl
def Lw:dN B=.ok (Z,B):=nr rfl
def uM:bo i u B=.ok (B.set i (J u)):=nr rfl
def Xg:Pf B=.ok (.dct [] [],B):=nr rfl
def Lx:bD m n s us=W3 m (s (fB n us)):=nr rfl
def F5:W3 m (.rt u B)=.ok u:=nr rfl
def Ly:DF n s us=D0 (s (fB n us)):=nr rfl
def F6:D0 (.rt u B)=io0 u B[0]? := nr rfl
def RE:io0 u (J (J w))=.ok (u,w):=nr rfl
def Bp {B:Ev}:jA [] B=[]:=nr rfl
def yf {js:List (Option Nat)}:jA (L::js) B=L::jA js B:=nr rfl
theorem yg {js:List (Option Nat)}:jA (J j::js) B=(B[j]?).getD L::jA js B:=by
 unfold jA;rw[Ç];dsimp only;cases B[j]? <;> rfl
end
section
variable {i j k:Int}{ws:List U}{w:U}{lo hi:Option Int}
def Lz:dk (.int i) (.int j)=.ok (.int (i+j)):=nr rfl
def D3:dk (.tup us) (.tup ws)=if us.length+ws.length<=Å then .ok (.tup (us++ws)) else .stk:=nr rfl
def RF:H_ (.int i) (.int j)=.ok (.int (i-j)):=nr rfl
def RG:eI (.int i) (.int j)=if jb i j=Z then .ok (.int (i*j)) else .stk:=nr rfl
def D4:qU (.int i) (.int j)=if Bj i j=Z then .ok (.int (i / j)) else .stk:=nr rfl
def RH:su (.int i) (.int j)=if decide (0<j)=Z then .ok (.int (i % j)) else .stk:=nr rfl
def RI:O9 (.int i) (.int j)=if O8 i j=Z then .ok (.int (i ^ j.toNat)) else .stk:=nr rfl
def RJ:O_ (.int i)=.ok (.int (-i)):=nr rfl
def Xh:Y3 (.int i) (.int j)=.ok (.bl (decide (i<j))):=nr rfl
def Xk:ZU (.int i) (.int j)=.ok (.bl (decide (j<=i))):=nr rfl
theorem RK:cv (.lst us) (.int i)=Y6 (pB us i):=by rfl
theorem LB:cv (.tup us) (.int i)=Y6 (pB us i):=by rfl
theorem RL:cv (.scr us) (.int i)=Y6 (pB us i):=by rfl
def RM:Y6 (J u)=.ok u:=nr rfl
def LC:gF [.lst us]=.ok (.int us.length):=nr rfl
def D5:gF [.tup us]=.ok (.int us.length):=nr rfl
def LD:gF [.scr us]=.ok (.int us.length):=nr rfl
def LF:fh [.lst us]=.ok (.tup us):=nr rfl
def RS {f:Bool->Bool}:Pc f u .non=.ok (.bl (f (FC u))):=nr rfl
def LK:FF [.int i,.int j]=.ok (.int (if j<i then j else i)):=nr rfl
def LL:FE [.int i,.int j]=.ok (.int (if j>i then j else i)):=nr rfl
def Xl {f:Bool->Bool}:Oi f u w=(pW u w).bind λb=>.ok (.bl (f b)):=nr rfl
theorem yh (n:Nat):pB us (n:Int)=us[n]? := by
 unfold pB JF;grind
def LM:pB us 0=us[0]? := yh 0
def RT:pB us 1=us[1]? := yh 1
def RU:pB us 2=us[2]? := yh 2
theorem Xm (h:0<us.length):JF us.length 0=J 0:=by simp_all[JF,h_]
def tG (h0:0<j)(h1:j<18446744073709551616):Bj i j=Z:=by unfold Bj;simp[h0,h1]
theorem uN (h0:0<=i)(h1:i<18446744073709551616):jb i j=Z:=by
 unfold jb;lia
theorem mN (h0:0<=j)(h1:j<18446744073709551616):jb i j=Z:=by
 unfold jb;simp only[ž,ß,decide_eq_true_eq];exact .inr ⟨by lia,by lia⟩
end
end L2
namespace L2
theorem F7 {i:Nat}{w u:U}{us:List U}{B:Ev}:Y7 i w (.int 0) B (J (J (.lst (u::us))))=.nx (B.set i (J (.lst (w::us)))):=by
 rw[Xc (Xm (by rw[Ù];lia))];rfl
theorem uP {G:Gm}{js:List (Option Nat)}{sg:U->Ev->R Ev}{ge:Ev->R (U×Ev)}{Y:Type}(ev:Y->Ev)(N:Nat)(I:List U->Y->Prop)
  (step:∀done u s,done.length<N->I done s->∃Bi y Bi' s',sg u (jA js (ev s))=.ok Bi/\ge Bi=.ok (y,Bi')/\wb G js Bi' (ev s)=ev s'/\I (done++[y]) s') :
  ∀(us done:List U) (s:Y),done.length+us.length<=N->I done s->∃ys s',pV G js sg dN ge us (ev s)=.ok (ys,ev s')/\ys.length=us.length/\I (done++ys) s'
 | [],done,s,_,h=>⟨[],s,rfl,rfl,by rw[Ĝ];exact h⟩
 |u::us,done,s,hl,h=>by
  rw[Ù] at hl;obtain⟨Bi,y,Bi',s',e1,e2,e3,h'⟩:=step done u s (by lia) h;obtain⟨ys,VP,e4,e5,h''⟩:=uP ev N I step us _ s' (by rw[ã,Ŋ];lia) h';refine⟨y::ys,VP,?_,by rw[Ù,Ù,e5],by rw[Ĩ] at h'';exact h''⟩;rw[Lv,e1,D1,Lw,D1,h_ rfl,e2,D1,e3,e4,D1]
theorem cw {s:Ev->SR}(I:Nat->Ev->Prop)(step:∀(i:Nat) (u:U) (B:Ev),us[i]? = J u->I i B->∃B1 B2,sg u B=.ok B1/\(s B1=.nx B2\/s B1=.ct B2)/\I (i+1) B2)(h:I 0 B) :
  ∃B',gU sg s us B=.nx B'/\I us.length B':=by
 have gen:∀(n i:Nat) (B:Ev),i+n=us.length->I i B->∃B',gU sg s (us.drop i) B=.nx B'/\I us.length B':=by
  intro n
  induction n with
  |zero=>
   intro i B hi h;have:i=us.length:=by lia
   subst this;rw[ş];exact⟨B,rfl,h⟩
  |succ n ih=>
   intro i B hi h;have pq:i<us.length:=by lia
   obtain⟨B1,B2,e1,e2,h2⟩:=step i us[i] B (á pq) h;obtain⟨B',e3,h3⟩:=ih (i+1) B2 (by lia) h2;refine⟨B',?_,h3⟩;rw[Ķ pq,Ll,e1,K3];rcases e2 with e2|e2<;>(rw[e2];exact e3)
 have:=gen us.length 0 B (by lia) h
 rwa [List.drop_zero] at this
theorem yi (ns:List Int):mK (ns.map .int)=J (ns.map .int):=by
 induction ns with
 |nil=>rfl
 |cons n ns ih=>rw[Ç];unfold mK;rw[ih];rfl
theorem uQ (ns:List Int):j3 (ns.map .int)=0:=by
 induction ns with
 |nil=>rfl
 |cons n ns ih=>rw[Ç];unfold j3;rw[ih];rfl
theorem yj:∀(ns ms:List Int),j9 (ns.map .int) (ms.map .int)=decide (ns=ms)
 | [],[]=>by rfl
 | [],m::ms=>by simp[j9]
 |n::ns,[]=>by simp[j9]
 |n::ns,m::ms=>by
  rw[Ç,Ç];unfold j9 lu;rw[yj ns ms,ļ];simp
theorem Bq (ns ms:List Int):pW (.tup (ns.map .int)) (.tup (ms.map .int))=.ok (decide (ns=ms)):=by
 unfold pW;have e1:∀ns:List Int,tq (.tup (ns.map .int))=J _:=λns=>by unfold tq;rw[yi];rfl
 simp_all[h_,fI,uQ,lu,yj]
noncomputable def gZ (n:Nat):List Int:=(ā n).map λi=>(i:Nat)
def LN (n:Nat):bK 0 n=(gZ n).map .int:=by
 simp[bK,gZ,ñ,ö,Int.zero_add]
def mO (n:Nat):(gZ n).length=n:=by unfold gZ;rw[Ê,Ş]
theorem uR {x:Int}:x∈gZ n↔0<=x/\x<n:=by
 unfold gZ;rw[Ú];constructor
 ·grind
 ·intro h;exact⟨x.toNat,Ź.mpr (by lia),by lia⟩
end L2
namespace L2
def aT:=zyy @Rb<|zyy @K2<|zyy @e_c<|zyy @D1<|zyy @K3<|zyy @W4<|zyy @e_B<|zyy @Rf<|zyy @K4<|zyy @Rg<|zyy @K5<|zyy @Rh<|zyy @W5<|zyy @W7<|zyy @K6<|zyy @FT<|zyy @K7<|zyy @K8<|zyy @W8<|zyy @W9<|zyy @Rl<|zyy @FV<|zyy @W_<|zyy @Rm<|zyy @Rn<|zyy @e_M<|zyy @K9<|zyy @La<|zyy @Rq<|zyy @Lc<|zyy @Ld<|zyy @Rr<|zyy @Rt<|zyy @Ru<|zyy @Rv<|zyy @Lj<|zyy @RA<|zyy @F0<|zyy @Lm<|zyy @Ln<|zyy @D2<|zyy @Lp<|zyy @Lr<|zyy @RB<|zyy @RC<|zyy @RD<|zyy @Lw<|zyy @uM<|zyy @Xg<|zyy @Lx<|zyy @F5<|zyy @Ly<|zyy @F6<|zyy @RE<|zyy @Bp<|zyy @yf<|zyy @yg<|zyy @Lz<|zyy @RF<|zyy @RG<|zyy @D4<|zyy @RH<|zyy @RI<|zyy @RJ<|zyy @Xh<|zyy @Xk<|zyy @RK<|zyy @LB<|zyy @RL<|zyy @RM<|zyy @LC<|zyy @LD<|zyy @LF<|zyy @RS<|zyy @LK<|zyy @LL<|zyy @Xl<|zyy @LM<|zyy @RT<|zyy @RU @F7
end L2
namespace L2
def cy (P:ó)(w:â)(base:É)(k:Nat)(G:Gm)(m:Md)(s:Ev->SR)(d:Df K mg x st)(S:ay N ps (ak st))(hb:∀(kV ke pm:Ì) (an:Option I) (cS ct:Ì) (us:List Ì),us.length=ps.length->ĵ (č x x (cT st) (bf st) (ak st) .none kV ke pm an cS ct) ⟨us,[]⟩=pure (ps.zip us))(fA:∀{f:I} {cS:Ì} {A:Ð} {outer:List Env} {s0:À} {H:Hp} {E:XK} (hr:cX k (A.deeper (ċ x (ak st) s0.heap.objs.size f cS))),(A.deeper (ċ x (ak st) s0.heap.objs.size f cS)).units+64<Ò->Bc (j8 pD P w K mg base N x (ak st) f cS A outer s0 H E).nox G m (bf st) s)(CV:G.io=M:=by rfl)(jY:∀i,i<ps.length->G.is i=M:=by decide):Fn P w K mg base x (k+1) ps (eG K ps.length (bD m N.length s) m):=Df.fnD G m s d S hb CV jY λ_ _ _ _ _ _ _ hr=>fA hr hr.units
def Ua (P:ó)(w:â)(base:É)(k:Nat)(G:Gm)(s:Ev->SR)(d:Df K mg x st)(S:ay N ps (ak st))(hb:∀(kV ke pm:Ì) (an:Option I) (cS ct:Ì) (us:List Ì),us.length=ps.length->ĵ (č x x (cT st) (bf st) (ak st) .none kV ke pm an cS ct) ⟨us,[]⟩=pure (ps.zip us))(fA:∀{f:I} {cS:Ì} {A:Ð} {outer:List Env} {s0:À} {H:Hp} {E:XK} (hr:cX k (A.deeper (ċ x (ak st) s0.heap.objs.size f cS))),(A.deeper (ċ x (ak st) s0.heap.objs.size f cS)).units+64<Ò->Bc (j8 pD P w K mg base N x (ak st) f cS A outer s0 H E).nox G .S (bf st) s)(CV:G.io=Z:=by rfl)(h0:G.is 0=Z:=by rfl)(jY:∀i,i<ps.length->i≠0->G.is i=M:=by decide):Fn P w K mg base x (k+1) ps (VA K ps.length (DF N.length s)):=Df.fnI G s d S hb CV h0 jY λ_ _ _ _ _ _ _ hr=>fA hr hr.units
end L2
namespace L2
open PySem.W
theorem LO {K:È}{H:Hp}{A:I->Prop}{f:Str}{u:U}:∀{fs:List Str} {us:List U} {xs:List V},aP K H A us xs->(fs.zip us).lookup f=J u->∃v,(fs.zip xs).lookup f=J v/\Rp K H A u v/\f∈fs
 | [],us,xs,_,e=>by simp at e
 |g::fs,[],xs,_,e=>by simp at e
 |g::fs,w::us,xs,h,e=>by
  obtain⟨x,r,rfl,p,q⟩:=h;rw[Ϙ,Ŷ] at e |-;cases c:f==g with
  |true=>
   grind
  |false=>
   rw[c] at e;obtain⟨v,a,b,d⟩:=LO q e;exact⟨v,a,b,Ö _ d⟩
noncomputable def bL (f:Str):U->R U:=λu=>match u with
 | .obj fs us=>match (fs.zip us).lookup f with
  |some w=>.ok w
  |none=>.stk
 |_=>.stk
section
variable {e:Æ}{b1:Bool}{m1:Md}{g1:Ev->R (U×Ev)}{pos:Pos}{f:Str}
theorem bz (h:DE X G e b1 m1 g1)(hb:Ħ e f X.env (Í e X.env)=Í e X.env:=by rfl):DE X G (.Attribute e f pos) b1 .S (gT (bL f) g1):=⟨(JV h.un hb).to λY H Q h00=>by
 obtain⟨ZQ,A,B,q,fi⟩:=h00;refine⟨ZQ,A,B,q,?_⟩;obtain⟨⟨u,B1⟩,e1,fi⟩:=fi.bind;obtain⟨z,e2,fi⟩:=fi.bind;rw[e1];intro v H1 q1 x1 s1 vm;unfold bL at e2;cases u with
 |obj fs us=>
  dsimp only at e2;cases c:(fs.zip us).lookup f with
  |none=>rw[c] at e2;cases e2
  |some w=>
   rw[c] at e2;cases e2;have p:=vm.pk;obtain⟨a,C,dx,xs,rfl,ha,co,l,r⟩:=p;obtain⟨y,hy,rp,hm⟩:=LO r c;exact⟨a,C,dx,_,y,rfl,ha,co.cl,co.no f hm,hy,fi _ H1 q1 x1 s1 (AG.ofS rp)⟩
 |_=>cases e2⟩
end
end L2
namespace L2
open PySem.W
inductive vd (X:Cx):Nat->List Ë->List Str->Prop
 |nil {i:Nat}:vd X i [] []
 |cons {i:Nat} {o v:Æ} {f:Str} {r d:Pos} {ss:List Ë} {fs:List Str} (h0:PE X o (wW 0)) (h1:PE X v (wW i)) (hs:Ē v (J (.Attribute o f r)) d.line X.env=pure M) (t:vd X (i+1) ss fs):vd X i (.Assign [.Attribute o f r] v d::ss) (f::fs)
theorem Br {f:Str}{y:V}:∀{gs:List (Str×V)},f∉gs.map (·.1)->iz f y gs=gs++[(f,y)]
 | [],_=>rfl
 | (g,z)::gs,h=>by
  rw[Ç,Ø,not_or] at h;unfold iz;rw[hZ (λe=>h.1 e.symm),Br h.2];rfl
theorem LP (h:H a=J o):bc H a o=H:=by
 grind[bc]
theorem vd.run {ss:List Ë}{fs:List Str}(h:vd X i ss fs):∃t,tX X ss t/\∀(D:lX) (Y:St) (H:Hp) (x dx C:I) (gs:List (Str×V)) (ws:List V),Y[0]? = J (J (.ref x))->(∀(j:Nat) (w:V),ws[j]? = J w->Y[i+j]? = J (J w))->ws.length=fs.length->H x=J (.ins C dx gs)->OE X.K C->(∀f∈fs,jt X.K C f)->(∀f∈fs,f∉gs.map (·.1))->fs.Nodup->gs.length+fs.length<=1000->D.nx Y (bc H x (.ins C dx (gs++fs.zip ws)))->t D Y H:=by
 induction h with
 |nil=>
  refine⟨_,sZ,λD Y H x dx C gs ws h0 hw hl hx _ _ _ _ _ q=>?_⟩;rw[List.zip_nil_left,Ĝ,LP hx] at q;exact q
 | @cons i o v f r d ss fs h0 h1 hs _ ih=>
  obtain⟨t,p,hq⟩:=ih;refine⟨_,nC (C9 h0 h1 hs) p,λD Y H x dx C gs ws e0 hw hl hx c n nm nd lt q=>?_⟩
  match ws,hl with
  |w::ws,hl=>
   refine⟨w,hw 0 w rfl,.ref x,e0,x,C,dx,gs,rfl,hx,c,n f Ï,by rw[Ù] at lt;lia,?_⟩;rw[Br (nm f Ï)];rw[ø] at nd;refine hq D Y _ x dx C _ ws e0 (λj y hy=>?_) (by simpa using hl) aI c (λg hg=>n g (Ö _ hg)) (λg hg hm=>?_) nd.2 (by rw[ã];rw[Ù] at lt;show _+1+_<=_;lia) ?_
   ·have:=hw (j+1) y hy;lia
   ·grind
   ·rw[Fe,Ĩ];exact q
def Ub (C:I)(fs:List Str):Sp:=λvs H Q _=>∃(x dx:I) (ws:List V),vs=.ref x::ws/\ws.length=fs.length/\H x=J (.ins C dx [])/\Q .non (bc H x (.ins C dx (fs.zip ws)))
section
variable {base:É}
theorem Pn {fs:List Str}{k:Nat}(F:HF K x qual st f fd)(S:ay N ps (ak st))(hl:ps.length=fs.length+1)(co:CO K C fs)(few:fs.length<=1000)(hb:∀(cS:d) (A:Ð) (outer:List Env) (s:À) (H:Hp) (E:XK),vd (j8 pD P w K mg base N qual (ak st) f cS A outer s H E).nox 1 (bf st) fs):gE P w K mg base pD (k+1) f fd ps (Ub C fs):=by
 refine F.ok S (λvs H Q E ⟨x,dx,ws,e,l,_⟩=>by rw[e,Ù,l,hl]) λcS A outer s H vs Q E hr ⟨x,dx,ws,e,l,hx,q⟩=>?_;obtain⟨t,p,hq⟩:=(hb cS A outer s H E).run;subst e;refine⟨t,p,hq _ _ H x dx C [] ws rfl (λj y hy=>?_) l hx co.cl co.no (λf _ h=>by cases h) co.nd (by simpa using few) q⟩;show (J (V.ref x)::(ws.map J++_))[1+j]? = _;rw[Nat.add_comm,Ρ,ŷ (by rw[Ê];exact (é.mp hy).1),ç,hy];rfl
end
end L2
namespace L2
open PySem.W
def zo (fs:List Str)(ga:Ev->R (List U×Ev)):Ev->R (U×Ev):=λB=>(ga B).bind λx=>if x.1.length=fs.length then .ok (.obj fs x.1,x.2) else .stk
section
variable {e:Æ}{es:List Æ}{b1:Bool}{pos p:Pos}{c:Str}{fs:List Str}{k:Nat}
theorem Uc (Mqq:Mk X.K C f)(F:gE X.prog X.w X.K X.mg X.base pD k f fd ps (Ub C fs))(hr:cX (k+1) X.A)(hm:X.mg c=J (.ref C))(hb:j0 X.K fd ps [])(co:CO X.K C fs)(ha:DA X G (e::es) b1 M ga)(hg:Gl X c:=by rfl)
  (qL:(c==("__debug__":Str))=M:=by decide) (he:Î (e::es) X.env=(M,Í e X.env)::Î es X.env:=by rfl) (nv:(ä pos (Î es X.env)).any (·.1)=M:=by rfl):DE X G (.Call (.Name c p) (e::es) [] pos) b1 .S (zo fs ga):=
 ⟨(OH Mqq F hr hg hm hb .nil J9 ha.un qL he nv).to λY H Q h=>by
  obtain⟨ZQ,A,B,q,fi⟩:=h;obtain⟨⟨us,B1⟩,e1,fi⟩:=fi.bind;refine⟨ZQ,A,B,q,?_⟩;rw[e1];intro vs H1 q1 x1 s1 qN;split at fi
  ·rename_i l;intro x dx nx ndx ne;refine⟨x,dx,vs,by rw[Ĝ],by rw[<-qN.rps.length];exact l,aI,rfl,?_⟩;rw[Fe];have sm:aN H1 (bc (bc H1 dx (.own x)) x (.ins C dx (fs.zip vs))):=λb o YH=>by
    rw[aG (λe=>by lia),aG (λe=>by lia)];exact YH
   refine fi _ _ (q1.same sm) (x1.trans (dP.same sm)) (sr s1 sm) (AG.ofS ?_);exact⟨x,C,dx,vs,rfl,aI,co,l,qN.rps.same sm⟩
  ·exact fi.elim⟩
end
end L2
namespace L2
open PySem.W
structure Bs (P:ó)(w:â)(K:È)(mg:Str->Option d)(base:É)(c:Str)(k:Nat)(fs:List Str):Prop where
 ex:∃(C f:I) (fd:ħ) (ps:List Str),Mk K C f/\gE P w K mg base pD k f fd ps (Ub C fs)/\mg c=J (.ref C)/\j0 K fd ps []/\CO K C fs
theorem tH {e:Æ}{es:List Æ}{b1:Bool}{pos p:Pos}{c:Str}{fs:List Str}{k:Nat}(N:Bs X.prog X.w X.K X.mg X.base c k fs)(hr:cX (k+1) X.A)(ha:DA X G (e::es) b1 M ga)(hg:Gl X c:=by rfl)(qL:(c==("__debug__":Str))=M:=by decide)(he:Î (e::es) X.env=(M,Í e X.env)::Î es X.env:=by rfl)(nv:(ä pos (Î es X.env)).any (·.1)=M:=by rfl):DE X G (.Call (.Name c p) (e::es) [] pos) b1 .S (zo fs ga):=by
 obtain⟨C,f,fd,ps,Mqq,F,hm,hb,co⟩:=N.ex;exact Uc Mqq F hr hm hb co ha hg qL he nv
structure Bt (K:È)(mg:Str->Option d)(c q:Str)(st:Ë)(fs:List Str):Prop where
 ex:∃(C f:I) (fd:ħ),mg c=J (.ref C)/\Mk K C f/\CO K C fs/\HF K "__init__" q st f fd
theorem LQ {base:É}{c q:Str}{fs:List Str}{k:Nat}(D:Bt K mg c q st fs)(S:ay N ps (ak st))(hl:ps.length=fs.length+1)(few:fs.length<=1000)(bd:∀(kV ke pm:d) (an:Option I) (cS ct:d) (us:List d),us.length=ps.length->ĵ (č "__init__" q (cT st) (bf st) (ak st) .none kV ke pm an cS ct) ⟨us,[]⟩=pure (ps.zip us))(hb:∀(f:I) (cS:d) (A:Ð) (outer:List Env) (s:À) (H:Hp) (E:XK),vd (j8 pD P w K mg base N q (ak st) f cS A outer s H E).nox 1 (bf st) fs):Bs P w K mg base c (k+1) fs:=by
 obtain⟨C,f,fd,hm,Mqq,co,F⟩:=D.ex;exact⟨⟨C,f,fd,ps,Mqq,Pn F S hl co few (hb f),hm,F.binds bd,co⟩⟩
end L2
section
set_option maxHeartbeats 400000
namespace L2
open PySem PySem.Spec PyProof.Rows PySem.W
inductive yn (K:È)(C:I):List Str->Prop
 |nil:yn K C []
 |cons {f:Str} {fs:List Str}:ī K (.ref C) f=J L->yn K C fs->yn K C (f::fs)
theorem yn.all {fs:List Str}(h:yn K C fs):∀f∈fs,jt K C f:=by
 induction h with
 |nil=>simp
 |cons a _ ih=>
  intro f hf;rcases Ø.mp hf with rfl|hf
  ·exact a
  ·exact ih f hf
inductive Xn (K:È)(c q:Str)(st:Ë)(fs:List Str):Prop
 |mk {C f:I} {od an:Option I} {sl:Array (Option d)} {oc kV dc pm cd ct:d}:Ď K ê c=J (J (.ref C))->PySem.W.makesIn K C=Z->ī K (.ref C) "__init__"=J (J (.ref f))->PySem.W.isFn K (.ref f)=Z->Ń K (.ref C)=Z->
  PySem.W.plainGet K C Str.empty=Z->PySem.W.hasDictIn K C=Z->PySem.W.plainOver K C=Z->ī K (.ref C) "__setattr__"=J (J (.builtin "object.__setattr__"))->
  K.lookup f=J ⟨oc,od,.func (č "__init__" q (cT st) (bf st) (ak st) .none kV dc pm an cd ct),sl⟩->Ż K cd q=Z->Ń K (.ref f)=Z->yn K C fs->Xn K c q st fs
theorem LS {c q:Str}{fs:List Str}(k:Xn K c q st fs)(X:K.In h)(G:h.Ns ê mg)(nd:fs.Nodup:=by decide+kernel):Bt K mg c q st fs:=by
 obtain⟨a,b,d,e,g,i,j,k,l,m,n,o,p⟩:=k;exact⟨_,_,_,Ū X G a,⟨b,d,e,g⟩,⟨⟨i,j,k,l⟩,p.all,nd⟩,Di m n o⟩
theorem Ud {base:É}(d:Df K mg x st)(S:ay N ps (ak st))(hb:∀(kV ke pm:Ì) (an:Option I) (cS ct:Ì) (us:List Ì),us.length=ps.length->ĵ (č x x (cT st) (bf st) (ak st) .none kV ke pm an cS ct) ⟨us,[]⟩=pure (ps.zip us)):Fn P w K mg base x 1 ps (eG K n (λ_=>.stk) .S):=
 have no:∀vs H Q E,¬eG K n _ .S vs H Q E:=λvs H Q E h00=>by
  obtain⟨us,A,_,_,h⟩:=h00;unfold wQ at h;split at h<;>exact h
 d.fn S hb (λvs H Q E h=>(no vs H Q E h).elim) λ_ _ _ _ _ _ _ _ _ _ h=>(no _ _ _ _ h).elim
end L2
end
namespace Hc.Dw
def iB (h:É)(a:I)(ds:Array DictEntry)(ep:Nat):Prop:=∃o,h.get? a=J o/\o.ExactDict/\o.data=.dict ds ep
theorem iB.ty (x:iB s.heap a ds ep):s.TypeIs (.ref a) "dict":=by
 obtain⟨o,e,c,_⟩:=x;exact⟨o,e,c.1⟩
theorem iB.at (x:iB h a ds ep)(e:∀o,h.get? a=J o->h'.get? a=J o):iB h' a ds ep:=by
 obtain⟨o,q,r⟩:=x;exact⟨o,e o q,r⟩
theorem iB.lt (x:iB h a ds ep):a<h.objs.size:=by obtain⟨o,e,_⟩:=x;exact Ô e
section
variable {A:Ð}{d vw:I}
theorem RV (lo:(d==Ă)=M)(x:iB s.heap d ds ep)(q:Q (.ref s.heap.objs.size) {s with heap:=s.heap.push {cls:=.type "dict_keyiterator",data:=.fields #[.ref d,.int 0 0,.int ds.size 0,.int ep 0]}}):Á (Ä prog w) A (pyIter (.ref d)) Q E s:=by
 have ty:=x.ty;obtain⟨od,e1,e2,e3⟩:=x;refine Λ ty F.slot_dict_iter (û F.slot_dict_iter ty F.entry_dict_iter ?_ (F.args_dict_iter_1 _));refine t ?_;refine t (Θ ty ?_);refine Â ?_;change Á _ _ (Δ d >>= _) _ _ s;unfold Δ;rw[hZ (by rw[lo];exact í)];refine t (Â (t (ğ e1 e3 (t (į e1 e3 ?_)))));refine t (Į (Â ⟨_,rfl,"dict_keyiterator",_,⟨_,Ü _ rfl,rfl⟩,F.slot_dict_keyiterator_next.lookup,?_⟩));simpa [rawInt] using q
theorem RW {Q:Option Ì->À->Prop}(t:s.heap.IsKeyIter it d i ds.size ep)(x:iB s.heap d ds ep)(hi:i<ds.size)
  (q:∀h',h'.IsKeyIter it d (i+1) ds.size ep->Ļ it s.heap h'->Q (J ds[i].key) {s with heap:=h'}):Á (Ä prog w) A (pyNext (.ref it)) Q E s:=by
 have ty:=t.typeIs;obtain⟨oi,i1,i2,i3⟩:=t;obtain⟨od,e1,e2,e3⟩:=x;refine Ã (Ě (ę ty ξ (û ξ ty ϻ ?_ (Ϲ _))));refine Ã (Â (Ã (Ã ?_)))
 first|refine Ã (Ζ ty (Â ?_))|refine Ã _
 refine Ã (Ŧ i1 i3 ?_);refine Ã (Â (Ã (ğ e1 e3 ?_)));rw[hZ (by simp)];refine Ã (Â (Ã (į e1 e3 ?_)));rw[hZ (by simp)];refine Â ?_;simp only[ĝ,Ů hi];refine Ã ?_
 first|refine Ã (Ζ ty (Â ?_))|refine Ã _
 refine Ã (wpAny_isOneOf_keyiter ty ?_);change Á _ _ (setField _ 1 _ >>= _) _ _ s;refine Ã (ŕ i1 i3 (by simp) ?_);have t':(s.heap.update it (Obj.mapFields (·.setIfInBounds 1 (rawInt ((i:Int)+1))))).IsKeyIter it d (i+1) ds.size ep:=
  ⟨_,Ō _ i1 (ϧ (Ų i3 _)),(Ϩ ..).trans i2,by rw[Ų i3];simp[rawInt]⟩
 refine Ã (õ (Ã ?_));refine wpAny_isOneOf_keyiter t'.typeIs ?_;exact Â (Â ⟨_,rfl,Â (q _ t' (ţ ..))⟩)
theorem RX {Q:Option Ì->À->Prop}(hh:A.handled=L)(t:s.heap.IsKeyIter it d i ds.size ep)(x:iB s.heap d ds ep)(hi:ds.size<=i)
  (q:∀h',Heap.ExtBut it s.heap h'->Q L {s with heap:=h'}):Á (Ä prog w) A (pyNext (.ref it)) Q E s:=by
 have ty:=t.typeIs;obtain⟨oi,i1,i2,i3⟩:=t;obtain⟨od,e1,e2,e3⟩:=x;refine Ã (Ě (ę ty ξ (û ξ ty ϻ ?_ (Ϲ _))));refine Ã (Â (Ã (Ã ?_)))
 first|refine Ã (Ζ ty (Â ?_))|refine Ã _
 refine Ã (Ŧ i1 i3 ?_);refine Ã (Â (Ã (ğ e1 e3 ?_)));rw[hZ (by simp)];refine Ã (Â (Ã (į e1 e3 ?_)));rw[hZ (by simp)];refine Â ?_;simp only[ĝ,Ϟ hi];refine Ã ?_
 first|refine Ã (Ζ ty (Â ?_))|refine Ã _
 change Á _ _ (setField _ 0 _ >>= _) _ _ s;refine Ã (ŕ i1 i3 (by simp) ?_);refine Ã ?_;refine Ã (m:=Ν _ _) (Ο (by rfl) (Į ?_));refine Ã (wpAny_handled ?_);rw[hh];refine Ã (Â (wpAny_throw ?_));refine Ã (ň ⟨_,Ü _ rfl,rfl⟩ ť ?_);exact Â (q _ (((ţ ..).extBut.push _).push _))
def Xo (lo:(d==Ă)=M)(x:iB s.heap d ds ep)(q:∀h',h'.IsValuesView s.heap.objs.size d->(∀b o,s.heap.get? b=J o->h'.get? b=J o)->Q (.ref s.heap.objs.size) {s with heap:=h'}) :
  Á (Ä prog w) A (Builtin.«dict.values» ⟨[.ref d],[]⟩) (λf s'=>∃v,f=.done (.ret v)/\Q v s') E s:=by
 refine t ?_;refine t (Θ x.ty ?_);refine Â ?_;unfold Δ;rw[hZ (by rw[lo];exact í)];exact t (Â (t (Į (Â ⟨_,rfl,q _ ⟨_,Ü _ rfl,rfl,rfl⟩ λb o e=>Ó _ e⟩))))
theorem Xp (hv:s.heap.IsValuesView vw d)(x:iB s.heap d ds ep)(q:Q (.ref s.heap.objs.size) {s with heap:=s.heap.push {cls:=.type "dict_valueiterator",data:=.fields #[.ref d,.int 0 0,.int ds.size 0,.int ep 0]}}):Á (Ä prog w) A (pyIter (.ref vw)) Q E s:=by
 have ty:=hv.typeIs;obtain⟨ov,v1,v2,v3⟩:=hv;obtain⟨od,e1,e2,e3⟩:=x;refine Λ ty F.slot_dict_values_iter (û F.slot_dict_values_iter ty F.entry_dict_values_iter ?_ (F.args_dict_values_iter_1 _));refine t (Â (t ?_));refine t (ï v1 v3 rfl (Â (t ?_)));refine t (ğ e1 e3 (t (į e1 e3 ?_)));simp only[show ae6 "dict_valueiterator"=M by decide,ϳ,if_false];refine Į (Â ⟨_,rfl,"dict_valueiterator",_,⟨_,Ü _ rfl,rfl⟩,F.slot_dict_valueiterator_next.lookup,?_⟩);simpa [rawInt] using q
theorem Xq {Q:Option Ì->À->Prop}(t:s.heap.IsValIter it d i ds.size ep)(x:iB s.heap d ds ep)(hi:i<ds.size)
  (q:∀h',h'.IsValIter it d (i+1) ds.size ep->Ļ it s.heap h'->Q (J ds[i].val) {s with heap:=h'}):Á (Ä prog w) A (pyNext (.ref it)) Q E s:=by
 have ty:=t.typeIs;obtain⟨oi,i1,i2,i3⟩:=t;obtain⟨od,e1,e2,e3⟩:=x;refine Ã (Ě (ę ty μ (û μ ty Ϸ ?_ (϶ _))));refine Ã (Â (Ã (Ã ?_)))
 first|refine Ã (Η ty (Â ?_))|refine Ã _
 refine Ã (Ŧ i1 i3 ?_);refine Ã (Â (Ã (ğ e1 e3 ?_)));rw[hZ (by simp)];refine Ã (Â (Ã (į e1 e3 ?_)));rw[hZ (by simp)];refine Â ?_;simp only[ĝ,Ů hi];refine Ã ?_
 first|refine Ã (Η ty (Â ?_))|refine Ã _
 refine Ã (ώ ty ?_);change Á _ _ (setField (.ref it) 1 _ >>= _) _ _ s;refine Ã (ŕ i1 i3 (by simp) ?_);have t':(s.heap.update it (Obj.mapFields (·.setIfInBounds 1 (rawInt ((i:Int)+1))))).IsValIter it d (i+1) ds.size ep:=
  ⟨_,Ō _ i1 (ϧ (Ų i3 _)),(Ϩ ..).trans i2,by rw[Ų i3];simp[rawInt]⟩
 refine Ã (õ (Ã ?_));refine ώ t'.typeIs (Ã ?_);refine ώ t'.typeIs ?_;exact Â (Â ⟨_,rfl,Â (q _ t' (ţ ..))⟩)
theorem Xr {Q:Option Ì->À->Prop}(hh:A.handled=L)(t:s.heap.IsValIter it d i ds.size ep)(x:iB s.heap d ds ep)(hi:ds.size<=i)
  (q:∀h',Heap.ExtBut it s.heap h'->Q L {s with heap:=h'}):Á (Ä prog w) A (pyNext (.ref it)) Q E s:=by
 have ty:=t.typeIs;obtain⟨oi,i1,i2,i3⟩:=t;obtain⟨od,e1,e2,e3⟩:=x;refine Ã (Ě (ę ty μ (û μ ty Ϸ ?_ (϶ _))));refine Ã (Â (Ã (Ã ?_)))
 first|refine Ã (Η ty (Â ?_))|refine Ã _
 refine Ã (Ŧ i1 i3 ?_);refine Ã (Â (Ã (ğ e1 e3 ?_)));rw[hZ (by simp)];refine Ã (Â (Ã (į e1 e3 ?_)));rw[hZ (by simp)];refine Â ?_;simp only[ĝ,Ϟ hi];refine Ã ?_
 first|refine Ã (Η ty (Â ?_))|refine Ã _
 change Á _ _ (setField (.ref it) 0 .none >>= _) _ _ s;refine Ã (ŕ i1 i3 (by simp) ?_);refine Ã ?_;refine Ã (m:=Ν _ _) (Ο (by rfl) (Į ?_));refine Ã (wpAny_handled ?_);rw[hh];refine Ã (Â (wpAny_throw ?_));refine Ã (ň ⟨_,Ü _ rfl,rfl⟩ ť ?_);exact Â (q _ (((ţ ..).extBut.push _).push _))
def Xs (lo:(d==Ă)=M)(x:iB s.heap d ds ep)(q:∀h',h'.IsItemsView s.heap.objs.size d->(∀b o,s.heap.get? b=J o->h'.get? b=J o)->Q (.ref s.heap.objs.size) {s with heap:=h'}) :
  Á (Ä prog w) A (Builtin.«dict.items» ⟨[.ref d],[]⟩) (λf s'=>∃v,f=.done (.ret v)/\Q v s') E s:=by
 refine t ?_;refine t (Θ x.ty ?_);refine Â ?_;unfold Δ;rw[hZ (by rw[lo];exact í)];exact t (Â (t (Į (Â ⟨_,rfl,q _ ⟨_,Ü _ rfl,rfl,rfl⟩ λb o e=>Ó _ e⟩))))
theorem Xt (hv:s.heap.IsItemsView vw d)(x:iB s.heap d ds ep)(q:∀h',Ř h' s.heap.objs.size d 0 ds.size ep .none .none->(∀b o,s.heap.get? b=J o->h'.get? b=J o)->Q (.ref s.heap.objs.size) {s with heap:=h'}):Á (Ä prog w) A (pyIter (.ref vw)) Q E s:=by
 have ty:=hv.typeIs;obtain⟨ov,v1,v2,v3⟩:=hv;obtain⟨od,e1,e2,e3⟩:=x;refine Λ ty F.slot_dict_items_iter (û F.slot_dict_items_iter ty F.entry_dict_items_iter ?_ (F.args_dict_items_iter_1 _));refine t (Â (t ?_));refine t (ï v1 v3 rfl (Â (t ?_)));refine t (ğ e1 e3 (t (į e1 e3 ?_)));simp only[show ae6 "dict_itemiterator"=Z by decide,if_true];refine Į (Â ⟨_,rfl,"dict_itemiterator",_,⟨_,Ü _ rfl,rfl⟩,F.slot_dict_itemiterator_next.lookup,?_⟩)
  (by simp only[sizeOk,aeg,å,ã,Ù,ł,Ĕ];lia)
 exact q _ (by
  have:=Ü s.heap (o:={cls:=.type "dict_itemiterator",data:=.fields #[.none,.bool M,.ref d,.int 0 0,.int ds.size 0,.int ep 0,.none,.none]}) rfl;simp_all[Ř,rawInt,aeg]) λb o e=>Ó _ e
theorem Xu {ok ov:Ì}{Q:Option Ì->À->Prop}(t:Ř s.heap it d i ds.size ep ok ov)(x:iB s.heap d ds ep)(hi:i<ds.size)
  (q:∀h',IsItemIterOut h' it d (i+1) ds.size ep ds[i].key ds[i].val s.heap.objs.size->h'.get? s.heap.objs.size=J {cls:=.type "tuple",data:=.seq #[ds[i].key,ds[i].val]} ->
   (∀b o,b≠it->s.heap.get? b=J o->h'.get? b=J o)->Q (J (.ref s.heap.objs.size)) {s with heap:=h'}):Á (Ä prog w) A (pyNext (.ref it)) Q E s:=by
 obtain⟨hp,g,dr,tk,os⟩:=s;have ty:Shared.TypeIs _ (.ref it) _:=⟨_,t,rfl⟩;obtain⟨od,e1,e2,e3⟩:=x;refine Ã (Ě (ę ty ν (û ν ty Ϻ ?_ (ϸ _))));refine Ã (Â (Ã (Ã ?_)))
 first|refine Ã (Ε ty (Â ?_))|refine Ã _
 refine Ã (Ŧ t rfl ?_);refine Ã (Â (Ã (ğ e1 e3 ?_)));rw[hZ (by simp)];refine Ã (Â (Ã (į e1 e3 ?_)));rw[hZ (by simp)];refine Â ?_;simp only[ĝ,Ů hi];refine Ã ?_
 first|refine Ã (Ε ty (Â ?_))|refine Ã _
 refine Ã (ύ ty ?_);change Á _ _ (setField _ 3 _ >>= _) _ _ _;refine Ã (đ t (by simp) λg1 t1 b1=>?_);have ty1:Shared.TypeIs ⟨g1,g,dr,tk,os⟩ (.ref it) _:=⟨_,t1,rfl⟩;refine Ã (õ (Ã (ύ ty1 (Ã (ύ ty1 ?_)))));refine Ã (wpAny_newTuple ?_);have t2:Ř (g1.push {cls:=.type "tuple",data:=.seq #[ds[i].key,ds[i].val]}) it d _ _ ep ok ov:=Ó _ t1;have n1:=b1.1;have lt:=Ô t;have u2:(g1.push {cls:=.type "tuple",data:=.seq #[ds[i].key,ds[i].val]}).get? hp.objs.size=J {cls:=.type "tuple",data:=.seq #[ds[i].key,ds[i].val]}:=by rw[<-n1];exact Ü _ rfl
 have k2:∀b o,b≠it->hp.get? b=J o->(g1.push {cls:=.type "tuple",data:=.seq #[ds[i].key,ds[i].val]}).get? b=J o:=λb o hb e=>Ó _ (b1.extBut b o hb e);rw[n1];generalize g1.push _=g2 at t2 u2 k2 |-;refine Ã ?_;refine Ã (ï t2 rfl rfl (Â ?_));refine Ã (ï t2 rfl rfl (Ã (ï t2 rfl rfl ?_)));refine Ã (đ t2 (by simp) λg3 t3 b3=>?_);refine Ã (đ t3 (by simp) λg4 t4 b4=>?_);refine Ã (đ t4 (by simp) λg5 t5 b5=>?_);refine Ã (đ t5 (by simp) λg6 t6 b6=>?_);have up:=λb o hb e=>b6.extBut b o hb (b5.extBut b o hb (b4.extBut b o hb (b3.extBut b o hb e)));exact Ã (wpAny_letGo (Â (Â ⟨_,rfl,Â (q g6 t6 (up _ _ (ò lt) u2) λb o hb e=>up b o hb (k2 b o hb e))⟩)))
theorem Xv {ok ov:Ì}{Q:Option Ì->À->Prop}(hh:A.handled=L)(t:Ř s.heap it d i ds.size ep ok ov)(x:iB s.heap d ds ep)(hi:ds.size<=i)
  (q:∀h',Heap.ExtBut it s.heap h'->Q L {s with heap:=h'}):Á (Ä prog w) A (pyNext (.ref it)) Q E s:=by
 have ty:s.TypeIs (.ref it) _:=⟨_,t,rfl⟩;obtain⟨od,e1,e2,e3⟩:=x;refine Ã (Ě (ę ty ν (û ν ty Ϻ ?_ (ϸ _))));refine Ã (Â (Ã (Ã ?_)))
 first|refine Ã (Ε ty (Â ?_))|refine Ã _
 refine Ã (Ŧ t rfl ?_);refine Ã (Â (Ã (ğ e1 e3 ?_)));rw[hZ (by simp)];refine Ã (Â (Ã (į e1 e3 ?_)));rw[hZ (by simp)];refine Â ?_;simp only[ĝ,Ϟ hi];refine Ã ?_
 first|refine Ã (Ε ty (Â ?_))|refine Ã _
 change Á _ _ (setField _ 2 _ >>= _) _ _ s;refine Ã (ŕ t rfl (by simp) ?_);refine Ã ?_;refine Ã (m:=Ν _ _) (Ο (by rfl) (Į ?_));refine Ã (wpAny_handled ?_);rw[hh];refine Ã (Â (wpAny_throw ?_));refine Ã (ň ⟨_,Ü _ rfl,rfl⟩ ť ?_);exact Â (q _ (((ţ ..).extBut.push _).push _))
end
end Hc.Dw
namespace L2
open Hc.Dw
theorem vg {α β:Type}{R:α->β->Prop}:∀{xs:List α} {ys:List β} {i:Nat} {y:β},è R xs ys->ys[i]? = J y->∃x,xs[i]? = J x/\R x y
 |_,_,_,_,.nil,h=>by simp at h
 |x::xs,y'::ys,0,y,.cons r t,h=>by grind
 |x::xs,y'::ys,i+1,y,.cons r t,h=>by
  obtain⟨x',m,q⟩:=vg t (by simpa using h);exact⟨x',by simpa using m,q⟩
theorem aO.rawD (I:aO X pins Y H s)(q:H a=J (DN a ep es)):(a==Ă)=M/\∃ds,iB s.heap a ds ep/\ds.size=es.length/\∀(i:Nat) (hi:i<ds.size),∃e,es[i]? = J e/\ds[i].key=.ref e.2.1/\aX e.2.2 ds[i].val:=by
 obtain⟨⟨l,o,ds,xs,h1,h2,h3,h4,h5⟩,_⟩:=I.hok a _ q;have n1:ds.size=es.length:=by rw[<-Ğ,h5,Ê,ő h4]
 refine⟨l,ds,⟨o,h1,h2,h3⟩,n1,λi hi=>?_⟩;have e1:ds.toList[i]? = J ds[i]:=by simp
 rw[h5,ç] at e1;cases e2:xs[i]? with
 |none=>rw[e2] at e1;cases e1
 |some x=>
  rw[e2] at e1;have e3:=by injection e1
  obtain⟨e,m,r⟩:=vg h4 e2;refine⟨e,m,?_,?_⟩
  ·rw[<-e3,r.2.1];rfl
  ·rw[<-e3];exact r.2.2
def Z3 (a:I)(ep:Nat)(es:List (List U×I×V)):It:=
 ⟨λi H=>H a=J (DN a ep es)/\i<es.length,λi H v H'=>H'=H/\∃e,es[i]? = J e/\v=.ref e.2.1,λi H=>H a=J (DN a ep es)/\es.length<=i⟩
def ItV (a:I)(ep:Nat)(es:List (List U×I×V)):It:=
 ⟨λi H=>H a=J (DN a ep es)/\i<es.length,λi H v H'=>H'=H/\∃e,es[i]? = J e/\v=e.2.2,λi H=>H a=J (DN a ep es)/\es.length<=i⟩
def Z4 (a:I)(ep:Nat)(es:List (List U×I×V)):It:=
 ⟨λi H=>H a=J (DN a ep es)/\i<es.length,λi H v H'=>∃T e,v=.ref T/\H T=L/\es[i]? = J e/\H'=bc H T (.tup [.ref e.2.1,e.2.2]),λi H=>H a=J (DN a ep es)/\es.length<=i⟩
theorem Iy:yT P w K tg (Z3 a ep es) [it] it (λi h=>h.IsKeyIter it a i es.length ep) where
 mem:=by simp
 obj:=λi h st b hb=>by
  have e:=by simpa using hb
  subst e;obtain⟨o,e,c,d⟩:=st;grind
 keep:=λi h h' st k=>st.at λo e=>k it (by simp) o e
 item:=by
  intro X hP hw hK hc i pins s Y H E I hf st hg;obtain⟨hq,hi⟩:=hg;obtain⟨_,ds,rd,n,at_⟩:=I.rawD hq;obtain⟨f0,f1,f2,f3,f4,f5⟩:=hf it (by simp);rw[<-n] at st hi;obtain⟨e,m,ek,rv⟩:=at_ i hi;refine RW st rd hi λh' b9 sb=>?_;have I1:=I.turned (t':=s.toks) (λb o hb e=>(sb.2 b hb).trans e) f0 f1 f3 f4 f5;rw[n] at b9;obtain⟨o,e1,c,d⟩:=id b9;exact⟨_,rfl,Fh e1 c d (by decide) ⟨.ref e.2.1,H,I1,ek,⟨rfl,e,m,rfl⟩,b9,λb hb=>(hf b hb).1⟩⟩
 done:=by
  intro X hP hw hK hc i pins s Y H E I hf st hg;obtain⟨hq,hi⟩:=hg;obtain⟨_,ds,rd,n,at_⟩:=I.rawD hq;obtain⟨f0,f1,f2,f3,f4,f5⟩:=hf it (by simp);rw[<-n] at st hi;exact RX (I.ok.hd hc) st rd hi λh' eb=>⟨rfl,I.turned (λb o hb e=>eb b o hb e) f0 f1 f3 f4 f5⟩
 self:=λ_ _ _ _ _ st h=>wpAny_pyIter_keyiter st h
def vh:entryFor table "dict_itemiterator.__iter__"=J Builtin.«dict_keyiterator.__iter__» :=
 entryFor_alias (id':="dict_keyiterator.__iter__") (by kernel_rfl) rfl (by decide+kernel) (by kernel_rfl)
theorem D6 {A:Ð}{ok ov:d}(st:Ř s.heap it a i n ep ok ov)(h:Q (.ref it) s):Á (Ä P w) A (pyIter (.ref it)) Q E s:=by
 have ty:s.TypeIs (.ref it) _:=⟨_,st,rfl⟩;refine Λ ty ae0 (û ae0 ty vh ?_ (F.args_dict_itemiterator_iter_1 _));exact Â ⟨_,rfl,"dict_itemiterator",_,ty,F.slot_dict_itemiterator_next.lookup,h⟩
theorem D7:yT P w K (.Tuple elts kt tp) (Z4 a ep es) [it] it (λi h=>∃ok ov,Ř h it a i es.length ep ok ov) where
 mem:=by simp
 obj:=λi h st b hb=>by
  grind
 keep:=λi h h' ⟨ok,ov,q⟩ k=>⟨ok,ov,k it (by simp) _ q⟩
 item:=by
  intro X hP hw hK hc i pins s Y H E I hf st hg;obtain⟨hq,hi⟩:=hg;obtain⟨_,ds,rd,n,at_⟩:=I.rawD hq;obtain⟨ok,ov,st⟩:=st;rw[<-n] at st hi;obtain⟨e,m,ek,rv⟩:=at_ i hi;have lt:=Ô st;refine Xu st rd hi λh' b9 tu kp=>⟨_,rfl,?_⟩;refine wpAny_letOwnedTupleGo_items b9 λh2 nB sb=>?_;have tu2:=sb.extBut _ _ (ò lt) tu;have I2:aO X pins Y (bc H _ (.tup [.ref e.2.1,e.2.2])) _:=I.turnNew (t':=s.toks) hf (λb o hb q=>by
   have hb:=by simpa using hb
   exact sb.extBut _ _ hb (kp b o hb q)) (Ñ _) ⟨by rw[Ĕ];simp,[ds[i].key,ds[i].val],.cons ek (.cons rv .nil),⟨_,tu2,rfl,_,rfl⟩,_,tu2⟩
  refine⟨.ref _,_,I2,rfl,⟨_,e,rfl,I.hok.fresh (Ñ _),m,rfl⟩,⟨_,_,by rw[<-n];exact nB⟩,λb hb=>?_⟩;have tW:=by simpa using hb
  rw[aG (by rw[tW];exact Þ lt)];exact (hf b hb).1
 done:=by
  intro X hP hw hK hc i pins s Y H E I hf st hg;obtain⟨hq,hi⟩:=hg;obtain⟨_,ds,rd,n,at_⟩:=I.rawD hq;obtain⟨f0,f1,f2,f3,f4,f5⟩:=hf it (by simp);obtain⟨ok,ov,st⟩:=st;rw[<-n] at st hi;exact Xv (I.ok.hd hc) st rd hi λh' eb=>⟨rfl,I.turned (λb o hb e=>eb b o hb e) f0 f1 f3 f4 f5⟩
 self:=λ_ _ _ _ _ ⟨ok,ov,st⟩ h=>D6 st h
def Z5 (Jqq:I->Nat->List (List U×I×V)->It)(tl:TE):TI:=λY H R=>tl Y H λx H1=>∃a ep es,x=.ref a/\H1 a=J (DN a ep es)/\R (Jqq a ep es) H1
structure M0 (X:Cx)(o:Æ)(m:Str)(cO bW:Pos):Prop where
 base:Ħ o m X.env (Í o X.env)=Í o X.env
 few:((ä bW (Î [] X.env)).all (λx=> !x.1)&&(backToKw bW (ŧ [] X.env)).all (λx=>x.1.isSome)
  && decide (([]:List Æ).length+([]:List ĕ).length+(if ([]:List ĕ).isEmpty then 0 else 1)<30))=Z
 line:(cO.endLine==bW.line)=Z
 trees:ä bW (Î [] X.env)=[]
section
variable {e:Æ}{tl:TE}{cO bW:Pos}
theorem LU (I:aO X pins Y H s)(q:H a=J (DN a ep es)):s.TypeIs (.ref a) "dict"/\∀b,Value.ref a=.ref b->∃ob,s.heap.get? b=J ob/\ob.dict=L:=by
 obtain⟨_,ds,rd,_⟩:=I.rawD q;refine⟨rd.ty,λb z=>?_⟩;cases z;obtain⟨o,h1,h2,_⟩:=rd;exact⟨o,h1,h2.2.1⟩
theorem Po (hl:PE X e tl):PI X tg e (Z5 Z3 tl):=by
 intro pins s Y H R I h;refine c7 (hl pins s Y H _ I h) λv s1 ⟨x,H1,I1,r1,a,ep,es,ex,hq,q⟩=>?_;subst ex;cases r1;obtain⟨lo,ds,rd,n,_⟩:=I1.rawD hq;refine RV lo rd ?_;refine⟨s1.heap.objs.size,[s1.heap.objs.size],_,_,H1,rfl,I1.kept λb o e=>Ó _ e,Iy,⟨_,Ü _ rfl,rfl,by rw[n];rfl⟩,λb hb=>?_,q⟩;have e:=by simpa using hb
 exact I1.fpOk (by rw[e];exact Ñ _) (I1.hok.fresh (by rw[e];exact Ñ _))
theorem LV (hl:PE X e tl)(m:M0 X e "items" cO bW):PI X (.Tuple elts kt tp) (.Call (.Attribute e "items" cO) [] [] bW) (Z5 Z4 tl):=by
 intro pins s Y H R I h;refine ϐ m.base m.few m.line Ϥ PySem.F.slot_dict_items PySem.F.type_dict_items (c7 (hl pins s Y H _ I h) λv s1 ⟨x,H1,I1,r1,a,ep,es,ex,hq,q⟩=>?_);subst ex;cases r1;obtain⟨t1,t2⟩:=LU I1 hq;refine⟨t1,t2,?_⟩;obtain⟨lo,ds,rd,n,_⟩:=I1.rawD hq;refine Γ rfl (afl ?_);refine û PySem.F.slot_dict_items t1 PySem.F.entry_dict_items (Xs lo rd λh1 vw k1=>?_) (PySem.F.args_dict_items_1 _);refine Xt vw (rd.at λo z=>k1 _ o z) λh2 st k2=>?_;have I2:=I1.kept (t':=s1.toks) λb o z=>k2 b o (k1 b o z);refine⟨h1.objs.size,[h1.objs.size],_,_,H1,rfl,I2,D7,⟨_,_,by rw[<-n];exact st⟩,λb hb=>?_,q⟩;have e:=by simpa using hb
 have ge:s1.heap.objs.size<=h1.objs.size:=by
  obtain⟨o,z,_⟩:=vw;exact Š (Ô z)
 exact I1.fpOk (by rw[e];exact ge) (I1.hok.fresh (by rw[e];exact ge))
end
end L2
namespace L2
open Hc.Dw
mutual
theorem Xw {K:È}{H:Hp}{A:I->Prop}:∀{u:U} {v:V},KH H u v->Rp K H A u v
 | .int i,v,h=>by grind[KH,Rp]
 | .tup us,v,h=>by
  unfold KH at h;unfold Rp;obtain⟨b,ys,e,q,l,z⟩:=h;exact⟨b,ys,e,q,l,D8 z⟩
 | .non,v,h=>by unfold KH at h;exact h.elim
 | .bl _,v,h=>by unfold KH at h;exact h.elim
 | .str _,v,h=>by unfold KH at h;exact h.elim
 | .lst _,v,h=>by unfold KH at h;exact h.elim
 | .dct _ _,v,h=>by unfold KH at h;exact h.elim
 | .scr _,v,h=>by unfold KH at h;exact h.elim
 | .obj _ _,v,h=>by unfold KH at h;exact h.elim
theorem D8 {K:È}{H:Hp}{A:I->Prop}:∀{us:List U} {vs:List V},ui H us vs->aP K H A us vs
 | [],vs,h=>by grind[ui,aP]
 |u::us,vs,h=>by
  unfold ui at h;unfold aP;obtain⟨x,r,q,p,z⟩:=h;exact⟨x,r,q,Xw p,D8 z⟩
end
theorem RY (h:tf H us b):Rp K H A (.tup us) (.ref b):=by
 obtain⟨_,ys,q,l,z⟩:=h;exact⟨b,ys,rfl,q,l,D8 z⟩
noncomputable def Ue:U->Bool
 | .tup _=>Z
 |_=>M
def rJ (ks:List U):Bool:= !ks.isEmpty&&ks.all Ue
theorem zp (w:rJ ks=Z)(d:xW H a ks xs):∃es ep,H a=J (DN a ep es)/\(∀e∈es,tf H e.1 e.2.1)/\ks=es.map (λp=>.tup p.1)/\xs=es.map (·.2.2):=by
 unfold rJ at w;rw[ß] at w;rcases d with⟨aV,h,rfl,rfl⟩|⟨es,n,h,e1,e2⟩
 ·exfalso;cases aV with
  |nil=>grind
  |cons p r=>
   have:=w.2;rw[Ç,ĺ,ß] at this;obtain⟨p1,p2⟩:=p;cases p1<;>cases this.1
 ·obtain⟨ep,q⟩:=h.ne n;exact⟨es,ep,q,h.key,e1,e2⟩
theorem RZ (mu:∀a,A a->Mu (H1 a))(w:rJ ks=Z)(h:Rp K H1 A (.dct ks us) v):∃a ep es,v=.ref a/\H1 a=J (DN a ep es)/\
  Wk K M A ks (Z3 a ep es) H1/\Wk K M A us (ItV a ep es) H1/\Wk K M A (Ā (λk u=>.tup [k,u]) ks us) (Z4 a ep es) H1:=by
 obtain⟨a,xs,rfl,na,d,l,z⟩:=h;obtain⟨es,ep,q,kt,e1,e2⟩:=zp w d;subst e1 e2;have le:es.length=us.length:=by rw[z.length,Ê]
 have key:∀(i:Nat) (e:List U×I×V),es[i]? = J e->Rp K H1 A _ _:=λi e he=>RY (kt e (Ċ he));have val:∀(i:Nat) (u:U),us[i]? = J u->∃e:List U×I×V,es[i]? = J e/\Rp K H1 A u e.2.2:=λi u hu=>by
  obtain⟨x,h1,h2⟩:=z.get hu;rw[ç] at h1;cases he:es[i]? with
  |none=>rw[he] at h1;cases h1
  |some e=>rw[he] at h1;cases h1;exact⟨e,rfl,h2⟩
 refine⟨a,ep,es,rfl,q,⟨?_,λH A' hx ha=>?_⟩,⟨l,λH A' hx ha=>?_⟩,⟨?_,λH A' hx ha=>?_⟩⟩
 ·rw[Ê,le];exact l
 ·have qa:=hx a _ na q;refine⟨λi u hu=>?_,⟨qa,by simp⟩⟩;rw[ç] at hu;cases he:es[i]? with
  |none=>rw[he] at hu;cases hu
  |some e=>
   rw[he] at hu;cases hu;refine⟨⟨qa,(é.mp he).1⟩,λx H' y=>?_⟩;obtain⟨rfl,e',pK,rfl⟩:=y;rw[he] at pK;cases pK;exact⟨aN.refl _,(key i e he).re mu hx ha⟩
 ·have qa:=hx a _ na q;refine⟨λi u hu=>?_,⟨qa,by rw[le];exact Ñ _⟩⟩;obtain⟨e,he,r⟩:=val i u hu;refine⟨⟨qa,(é.mp he).1⟩,λx H' y=>?_⟩;obtain⟨rfl,e',pK,rfl⟩:=y;rw[he] at pK;cases pK;exact⟨aN.refl _,r.re mu hx ha⟩
 ·rw[ŋ];exact ą (Nat.min_le_right _ _) l
 ·have qa:=hx a _ na q;refine⟨λi u hu=>?_,⟨qa,by rw[ŋ,Ê,le,Nat.min_self];exact Ñ _⟩⟩;rw[ϓ,ç] at hu;cases hU:us[i]? with
  |none=>rw[hU] at hu;cases h:es[i]? <;> rw[h] at hu<;>cases hu
  |some u0=>
   obtain⟨e,he,r⟩:=val i u0 hU;rw[hU,he] at hu;cases hu;refine⟨⟨qa,(é.mp he).1⟩,λx H' y=>?_⟩;obtain⟨T,e',rfl,hT,pK,rfl⟩:=y;rw[he] at pK;cases pK;have sm:=cY hT (.tup [.ref e.2.1,e.2.2]);refine⟨sm,?_⟩;exact⟨T,_,rfl,aI,by have:Å=16777216:=rfl;rw[this];simp,aP.cons (((key i e he).re mu hx ha).same sm) (aP.cons ((r.re mu hx ha).same sm) aP.nil)⟩
def VG (g:Ev->R (U×Ev)):Ev->R (List U×Ev):=λB=>(g B).bind λx=>match x.1 with
 | .dct ks _=>if rJ ks=Z then .ok (ks,x.2) else .stk
 |_=>.stk
def LW (g:Ev->R (U×Ev)):Ev->R (List U×Ev):=λB=>(g B).bind λx=>match x.1 with
 | .dct ks us=>if rJ ks=Z then .ok (Ā (λk u=>.tup [k,u]) ks us,x.2) else .stk
 |_=>.stk
section
variable {e:Æ}{cO bW:Pos}{b1:Bool}{m1:Md}{g1:Ev->R (U×Ev)}
theorem yo {f:List U->List U->List U}{Jqq:I->Nat->List (List U×I×V)->It}(n1:m1≠.P)(hw:∀{K:È} {A:I->Prop} {H1:Hp} {ks us:List U} {v:V},(∀a,A a->Mu (H1 a))->rJ ks=Z->Rp K H1 A (.dct ks us) v->∃a ep es,v=.ref a/\H1 a=J (DN a ep es)/\Wk K M A (f ks us) (Jqq a ep es) H1){R:It->Hp->Prop}(h:Y2 X.K G b1 M (λB=>(g1 B).bind λx=>match x.1 with
   | .dct ks us=>if rJ ks=Z then .ok (f ks us,x.2) else .stk
   |_=>.stk) Y H R):Z5 Jqq (tD X.K G b1 m1 g1) Y H R:=by
 obtain⟨ZQ,A,B,q,h⟩:=h;dsimp only at h;refine⟨ZQ,A,B,q,?_⟩;cases e1:g1 B with
 |stk=>rw[e1] at h;exact h.elim
 |exc=>rw[e1] at h;exact h.elim
 |ok y=>
  obtain⟨u,B1⟩:=y;rw[e1] at h;intro v H1 q1 x1 s1 vm;cases u with
  |dct ks us=>
   dsimp only[L2.R.bind] at h;split at h
   ·rename_i Om B' e2;split at e2
    ·rename_i c;cases e2;obtain⟨a,ep,es,ev,hq,wk⟩:=hw q1.mu c (vm.rp n1);exact⟨a,ep,es,ev,hq,h _ H1 q1 x1 s1 wk⟩
    ·cases e2
   lia
  |_=>exact h.elim
theorem F9 (h:DE X G e b1 m1 g1)(n1:m1≠.P:=by decide):DI X G tg e b1 M (VG g1):=⟨(Po h.un).to λY H R z=>yo n1 (λmu w r=>by
 obtain⟨a,ep,es,h1,h2,h3,_⟩:=RZ mu w r;exact⟨a,ep,es,h1,h2,h3⟩) z⟩
theorem ow (h:DE X G e b1 m1 g1)(n1:m1≠.P:=by decide)(m:M0 X e "items" cO bW:=by exact⟨rfl,rfl,rfl,rfl⟩):DI X G (.Tuple elts kt tp) (.Call (.Attribute e "items" cO) [] [] bW) b1 M (LW g1):=⟨(LV h.un m).to λY H R z=>yo n1 (λmu w r=>by
 obtain⟨a,ep,es,h1,h2,_,_,h3⟩:=RZ mu w r;exact⟨a,ep,es,h1,h2,h3⟩) z⟩
end
end L2
namespace L2
noncomputable def Gm.un (G:Gm)(i:Nat):Gm:=⟨G.own.set i M,G.io,G.W⟩
theorem jF:(G.un i).is i=M:=by
 unfold Gm.un Gm.is;grind
def kC (h:i≠j):(G.un i).is j=G.is j:=by
 grind[Gm.un,Gm.is,ϭ,ē]
section
variable {A':I->Prop}{B':Ev}
theorem cz.un (r:cz K G ZQ A B Y H)(hi:G.io=Z->i≠0):∃A',cz K (G.un i) ZQ A' B Y H:=by
 have io0:∀h ,Y[0]? = J _/\(G.un i).is 0=Z:=λh=>by
  obtain⟨a,b⟩:=r.io0 h;exact⟨a,by rw[kC (hi h)];exact b⟩
 by_cases c:G.is i=Z/\∃u,B[i]? = J (J u)
 ·obtain⟨c,u,hu⟩:=c;obtain⟨a,h1,h2,h3,h4,h5⟩:=r.own c hu;have na:¬ZQ.A0 a:=by
   lia
  have sub:∀b,(A b/\b≠a)->A b:=λb z=>z.1;refine⟨λb=>A b/\b≠a,?_⟩;exact {
   slot:=λj w hj=>by
    obtain⟨v,s1,s2⟩:=r.slot j w hj;refine⟨v,s1,?_⟩;by_cases e:i=j
    ·subst e;rw[hu] at hj;cases hj;rw[h1] at s1;cases s1;rw[hZ (by rw[jF];exact í)];exact h5.rp sub λz=>z.2 rfl
    ·rw[kC e];by_cases cj:G.is j=Z
     ·rw[h_ cj] at s2 |-;obtain⟨b,e1,e2,e3,e4,e5⟩:=s2;refine⟨b,e1,⟨e2,λz=>?_⟩,e3,e4,e5.mono sub⟩;subst z e1;exact r.dis i j u w b c cj e hu hj h1 s1
     ·rw[hZ cj] at s2 |-;exact s2.mono sub
   dis:=λj k w w' b cj ck ne hj hk sj sk=>by
    have e1:i≠j:=λz=>by grind[jF]
    have e2:i≠k:=λz=>by grind[jF]
    rw[kC e1] at cj;rw[kC e2] at ck;exact r.dis j k w w' b cj ck ne hj hk sj sk
   mu:=λb z=>r.mu b z.1
   sup:=λb z=>⟨r.sup b z,λe=>na (e▸z)⟩
   out:=λb z=>r.out b z.1
   bas:=r.bas
   io0:=io0
   len:=r.len}
 ·refine⟨A,?_⟩;exact {
   slot:=λj w hj=>by
    obtain⟨v,s1,s2⟩:=r.slot j w hj;refine⟨v,s1,?_⟩;by_cases e:i=j
    ·simp_all[hZ,jF,í]
    ·rw[kC e];exact s2
   dis:=λj k w w' b cj ck ne hj hk sj sk=>by
    have e1:i≠j:=λz=>by grind[jF]
    have e2:i≠k:=λz=>by grind[jF]
    rw[kC e1] at cj;rw[kC e2] at ck;exact r.dis j k w w' b cj ck ne hj hk sj sk
   mu:=r.mu
   sup:=r.sup
   out:=r.out
   bas:=r.bas
   io0:=io0
   len:=r.len}
theorem cz.reun (r:cz K (G.un i) ZQ A B Y H):cz K G ZQ A (B.set i L) Y H where
 slot:=λj w hj=>by
  rcases cU hj with⟨rfl,e⟩|⟨ne,e⟩
  ·cases e
  ·obtain⟨v,s1,s2⟩:=r.slot j w e;rw[kC ne] at s2;exact⟨v,s1,s2⟩
 dis:=λj k w w' a cj ck ne hj hk sj sk=>by
  rcases cU hj with⟨rfl,e⟩|⟨n1,e1⟩
  ·cases e
  ·rcases cU hk with⟨rfl,e⟩|⟨n2,e2⟩
   ·cases e
   ·exact r.dis j k w w' a (by rw[kC n1];exact cj) (by rw[kC n2];exact ck) ne e1 e2 sj sk
 mu:=r.mu
 sup:=r.sup
 out:=r.out
 bas:=r.bas
 io0:=λh=>by
  obtain⟨a,b⟩:=r.io0 h;refine⟨a,?_⟩;by_cases e:i=0
  ·grind[jF]
  simp_all[kC]
 len:=by rw[ġ];exact r.len
end
noncomputable def vi (i:Nat)(g:Ev->SR):Ev->SR:=λB=>match g B with
 | .nx B'=>.nx (B'.set i L)
 | .bk B'=>.bk (B'.set i L)
 | .ct B'=>.ct (B'.set i L)
 | .rt u B'=>.rt u (B'.set i L)
 |r=>r
section
variable {e:Æ}{YE:List Ë}{m m1:Md}{g:Ev->SR}{g1:Ev->R (U×Ev)}{h1:Ev->R (Bool×Ev)}
theorem LX (hi:G.io=Z->i≠0){D:lX}(h:VB X.K G m (vi i g) D Y H):VB X.K (G.un i) m g D Y H:=by
 obtain⟨ZQ,A,B,q,f⟩:=h;obtain⟨A',q'⟩:=q.un hi;refine⟨ZQ,A',B,q',?_⟩;unfold vi at f;cases e:g B with
 |nx=>rw[e] at f;exact λA2 Y2 H2 q2=>f A2 Y2 H2 q2.reun
 |bk=>rw[e] at f;exact λA2 Y2 H2 q2=>f A2 Y2 H2 q2.reun
 |ct=>rw[e] at f;exact λA2 Y2 H2 q2=>f A2 Y2 H2 q2.reun
 |rt=>rw[e] at f;exact λA2 Y2 H2 v q2 vm=>f A2 Y2 H2 v q2.reun vm
 |exc=>rw[e] at f;exact f
 |stk=>rw[e] at f;exact f.elim
def ox (i:Nat)(h:Bc X (G.un i) m YE g)(hi:G.io=Z->i≠0:=by decide):Bc X G m YE (vi i g):=⟨h.un.to λ_ _ _ z=>LX hi z⟩
end
end L2
namespace Hc.Ts
section
variable {O:ņ}(key:æ->O.α)
def JH (l:List æ):Prop:=l.Pairwise λx y=>O.kle (key x) (key y)
structure MI (T o ra rb:List æ):Prop where
 perm:(o++(ra++rb)).Perm T
 so:JH key o
 sa:JH key ra
 sb:JH key rb
 oa:∀x∈o,∀y∈ra,O.kle (key x) (key y)
 ob:∀x∈o,∀y∈rb,O.kle (key x) (key y)
structure MH (T ra rb o:List æ):Prop where
 perm:((ra++rb)++o).Perm T
 so:JH key o
 sa:JH key ra
 sb:JH key rb
 oa:∀x∈ra,∀y∈o,O.kle (key x) (key y)
 ob:∀x∈rb,∀y∈o,O.kle (key x) (key y)
variable {key}
end
structure JI (Mqq:Model)(A:Ð)(E:d->À->Prop)(s:À)(O:ņ)(key:æ->O.α)(knd:ŏ)(D:æ->Prop):Prop where
 lt:∀(x y:æ) (st:à) (Q:Option Bool->à->Prop),D x->D y->ć st=knd->Q (J (O.blt (key x) (key y))) st->wpS Mqq A E s (lt' x y) Q st
end Hc.Ts
namespace Hc.Ts
noncomputable def LY (lo n m:Nat):StateT à Sem AscSt:=forIn [n:m] ((L,n):AscSt) λ_ c=>do
 let J sm ←ltAt' (lo+c.2) (lo+c.2-1)|pure (.done (J L,c.2))
 if sm=Z then pure (.done (L,c.2)) else pure (.yield (L,c.2+1))
def LZ (lo n m:Nat):StateT à Sem (Option Nat):=do
 Β lo (lo+n)
 let c ←LY lo n m
 match c.1 with
 |some r=>pure r
 |none=>pure (J c.2)
noncomputable def R1 (lo:Nat)(c:DescSt):StateT à Sem (ForInStep DescSt):=do
 let J sm ←ltAt' (lo+c.2.1) (lo+c.2.1-1)|pure (.done (J L,c.2.1,c.2.2))
 if sm=Z then
  if c.2.2>0 then do
   Β (lo+c.2.1-(c.2.2+1)) (lo+c.2.1)
   pure (.yield (L,c.2.1+1,0))
  else pure (.yield (L,c.2.1+1,0))
 else do
  let J lg ←ltAt' (lo+c.2.1-1) (lo+c.2.1)|pure (.done (J L,c.2.1,c.2.2))
  if lg=Z then pure (.done (L,c.2.1,c.2.2)) else pure (.yield (L,c.2.1+1,c.2.2+1))
def R3 (lo n m:Nat):StateT à Sem DescSt:=forIn [n:m] ((L,n,0):DescSt) λ_ c=>R1 lo c
def L0 (lo n m:Nat):StateT à Sem (Option Nat):=do
 liftM (rule "list.sort.descending-run")
 let c ←R3 lo (n+1) m
 match c.1 with
 |some r=>pure r
 |none=>
  if c.2.2>0 then do
   Β (lo+c.2.1-(c.2.2+1)) (lo+c.2.1)
   LZ lo c.2.1 m
  else LZ lo c.2.1 m
theorem Bu (lo m:Nat):countRun' lo m=(do
  let c ←LY lo 1 m
  match c.1 with
  |some r=>pure r
  |none=>
   if (c.2==m)=Z then pure (J c.2)
   else if c.2>1 then do
    let J rs ←ltAt' lo (lo+c.2-1)|pure L
    if rs=Z then pure (J c.2)
    else do
     Β lo (lo+c.2)
     L0 lo c.2 m
   else L0 lo c.2 m):=by kernel_rfl
section
variable {A:Ð}{O:ņ}{key:æ->O.α}{knd:ŏ}{D:æ->Prop}{lo:Nat}{a0:Array æ}{st0:à}
noncomputable def kx (key:æ->O.α)(l:Array æ)(i:Nat):O.α:=key ((l[i]?).getD (Value.none,Value.none))
def Bv {l m:Array æ}(h:l[i]? = m[j]?):kx key l i=kx key m j:=by unfold kx;rw[h]
theorem D9 {l:Array æ}(hm:lo+m<=l.size)(k:Nat):kx key (mirror l (lo+n) (lo+m) ((lo+m-(lo+n)) / 2)) (lo+k)=if n<=k/\k<m then kx key l (lo+(n+m-1-k)) else kx key l (lo+k):=by
 have e:=getElem?_mirror_all (i:=lo+n) hm (lo+k);by_cases c:n<=k/\k<m
 ·rw[h_ (by lia)] at e;rw[h_ c];exact Bv (e.trans (by congr 1;lia))
 ·rw[hZ (by lia)] at e;rw[hZ c];exact Bv e
theorem gb {l:Array æ}(hm:lo+m<=l.size)(he:∀k,n<=k->k<m->kx key l (lo+k)=kx key l (lo+m-1))(k:Nat):kx key (mirror l (lo+n) (lo+m) ((lo+m-(lo+n)) / 2)) (lo+k)=kx key l (lo+k):=by
 grind[D9]
theorem L7 {l:Array æ}{p d:Nat}(hp:lo+p<l.size)(hd:d<=p)(k:Nat):kx key (bubble l (lo+p) d) (lo+k)=if k=p-d then kx key l (lo+p) else if p-d<k/\k<=p then kx key l (lo+(k-1)) else kx key l (lo+k):=by
 have e:=getElem?_bubble hp d (by lia) (lo+k);by_cases c:k=p-d
 ·rw[h_ (by lia)] at e;rw[h_ c];exact Bv e
 ·rw[hZ (by lia)] at e;rw[hZ c];by_cases c2:p-d<k/\k<=p
  ·rw[h_ (by lia)] at e;rw[h_ c2];exact Bv (e.trans (by congr 1;lia))
  ·rw[hZ (by lia)] at e;rw[hZ c2];exact Bv e
def JJ (key:æ->O.α)(lo:Nat)(l:Array æ)(n:Nat):Prop:=∀i j,i<=j->j<n->O.kle (kx key l (lo+i)) (kx key l (lo+j))
def VH (key:æ->O.α)(lo:Nat)(l:Array æ)(n:Nat):Prop:=∀i j,i<=j->j<n->O.kle (kx key l (lo+j)) (kx key l (lo+i))
structure SB (lo:Nat)(a0:Array æ)(st0 st:à):Prop where
 perm:(Õ st).Perm a0
 same:∀k,k<lo->(Õ st)[k]? = a0[k]?
 rest:st=setArr st0 (Õ st)
def SB.size {st:à}(h:SB lo a0 st0 st):(Õ st).size=a0.size:=h.perm.size_eq
theorem SB.put {st:à}(h:SB lo a0 st0 st){l:Array æ}(hp:l.Perm (Õ st))(hs:∀k,k<lo->l[k]? = (Õ st)[k]?):SB lo a0 st0 (setArr st l):=by
 refine⟨hp.trans h.perm,λk hk=>(hs k hk).trans (h.same k hk),?_⟩;have:=h.rest;lia
theorem SB.mir {st:à}(h:SB lo a0 st0 st)(hm:lo+m<=a0.size):SB lo a0 st0 (setArr st (mirror (Õ st) (lo+n) (lo+m) ((lo+m-(lo+n)) / 2))):=by
 refine h.put (mirror_perm _ _ _ _) λk hk=>?_;rw[getElem?_mirror_all (by rw[h.size];exact hm),hZ (by lia)]
theorem SB.bub {st:à}(h:SB lo a0 st0 st){p d:Nat}(hp:lo+p<a0.size)(hd:d<=p):SB lo a0 st0 (setArr st (bubble (Õ st) (lo+p) d)):=by
 refine h.put (bubble_perm _ _ _) λk hk=>?_;rw[getElem?_bubble (by rw[h.size];exact hp) d (by lia),hZ (by lia),hZ (by lia)]
def SB.kind {st:à}(h:SB lo a0 st0 st)(kd:ć st0=knd):ć st=knd:=by rw[h.rest];exact kd
theorem vj (C:JI Mqq A E s O key knd D){st:à}{Q:Option Bool->à->Prop}(kd:ć st0=knd)(hD:∀p∈a0.toList,D p)(hB:SB lo a0 st0 st)(hi:i<a0.size)(hj:j<a0.size)(h:Q (J (O.blt (kx key (Õ st) i) (kx key (Õ st) j))) st):wpS Mqq A E s (ltAt' i j) Q st:=by
 have fd:∀i,i<a0.size->∃p,(Õ st)[i]? = J p/\D p/\kx key _ i=key p:=λi hi=>by
  have SM:i<(Õ st).size:=by rw[hB.size];exact hi
  refine⟨(Õ st)[i],getElem?_pos _ i SM,hD _ ((ϵ.mp hB.perm).mem_iff.mp (by simp)),?_⟩;unfold kx;rw[getElem?_pos _ i SM];rfl
 obtain⟨p,e1,d1,k1⟩:=fd i hi;obtain⟨q,e2,d2,k2⟩:=fd j hj;rw[k1,k2] at h;rw[ltAt'_eq];refine î (wpS_get ?_);dsimp only;rw[elem'_eq,elem'_eq,e1,e2];exact C.lt p q st Q d1 d2 (hB.kind kd) h
def zq {st:à}{Q:Unit->à->Prop}(h:Q () (setArr st (mirror (Õ st) i j ((j-i) / 2)))):wpS Mqq A E s (Β i j) Q st:=by
 exact wpS_modify h
theorem Bw (C:JI Mqq A E s O key knd D){st:à}{Q:AscSt->à->Prop}(kd:ć st0=knd)(hD:∀p∈a0.toList,D p)(hm:lo+m<=a0.size)(n1:1<=n)(nm:n<=m)(hB:SB lo a0 st0 st)(ha:JJ key lo (Õ st) n)(h:∀r,n<=r->r<=m->JJ key lo (Õ st) r->(r=m\/O.klt (kx key (Õ st) (lo+r)) (kx key (Õ st) (lo+r-1)))->Q (L,r) st):wpS Mqq A E s (LY lo n m) Q st:=by
 refine ů (I:=λx c b9=>b9=st/\c=(L,x)/\JJ key lo _ x) ?go ?out ⟨rfl,rfl,ha⟩
 case out=>
  rintro c b9 ⟨rfl,rfl,CN⟩;have e:max n m=m:=by lia
  rw[e] at CN |-;exact h m nm (Ñ _) CN (.inl rfl)
 case go=>
  rintro x c b9 h1 h2 ⟨rfl,rfl,CN⟩;refine î (vj C kd hD hB (by lia) (by lia) ?_);cases e:O.blt _ _ with
  |true=>
   exact Ć (h x h1 (by lia) CN (.inr e))
  |false=>
   refine Ć ⟨rfl,rfl,λi j Fb hj=>?_⟩;by_cases c1:j<x
   ·exact CN i j Fb c1
   ·have:j=x:=by lia
    subst this;by_cases c2:i=j
    ·grind[Ő]
    ·have:=CN i (j-1) (by lia) (by lia);rw[show lo+(j-1)=lo+j-1 by lia] at this;exact ű this e
theorem Bx (C:JI Mqq A E s O key knd D){st:à}{Q:Option Nat->à->Prop}(kd:ć st0=knd)(hD:∀p∈a0.toList,D p)(hm:lo+m<=a0.size)(n1:1<=n)(nm:n<=m)(hB:SB lo a0 st0 st)(hd:VH key lo (Õ st) n)(h:∀r b9,SB lo a0 st0 b9->1<=r->r<=m->JJ key lo (Õ b9) r->Q (J r) b9):wpS Mqq A E s (LZ lo n m) Q st:=by
 refine î (zq ?_);have Zi:=hB.mir (n:=0) (m:=n) (by lia);have hz:lo+n<=(Õ st).size:=by rw[hB.size];lia
 refine î (Bw C kd hD hm n1 nm Zi (λi j Fb hj=>?_) λr r1 r2 r3 _=>Ć (h r _ Zi (by lia) r2 r3));have e1:=D9 (key:=key) (n:=0) hz i;have e2:=D9 (key:=key) (n:=0) hz j;rw[Nat.add_zero,h_ (by lia)] at e1 e2;rw[e1,e2];exact hd _ _ (by lia) (by lia)
theorem L8 (C:JI Mqq A E s O key knd D){st:à}{Q:DescSt->à->Prop}(kd:ć st0=knd)(hD:∀p∈a0.toList,D p)(hm:lo+m<=a0.size)(n1:1<=n)(nm:n<=m)(hB:SB lo a0 st0 st)(hd:VH key lo (Õ st) n)(h:∀r q b9,SB lo a0 st0 b9->n<=r->r<=m->VH key lo (Õ b9) r->q+1<=r->(∀i,r-(q+1)<=i->i<r->kx key (Õ b9) (lo+i)=kx key (Õ b9) (lo+r-1))->Q (L,r,q) b9):wpS Mqq A E s (R3 lo n m) Q st:=by
 refine ů (I:=λx c b9=>∃q,c=(L,x,q)/\SB lo a0 st0 b9/\VH key lo (Õ b9) x/\q+1<=x/\∀i,x-(q+1)<=i->i<x->kx key (Õ b9) (lo+i)=kx key (Õ b9) (lo+x-1)) ?go ?out
  ⟨0,rfl,hB,hd,by lia,λi a1 a2=>by congr 1;lia⟩
 case out=>
  rintro c b9 ⟨q,rfl,b1,b2,b3,b4⟩;have e:max n m=m:=by lia
  rw[e] at b2 b3 b4 |-;exact h m q b9 b1 nm (Ñ _) b2 b3 b4
 case go=>
  rintro x c b9 h1 h2 ⟨q,rfl,b1,b2,b3,b4⟩;have hz:lo+x<=(Õ b9).size:=by rw[b1.size];lia
  unfold R1;dsimp only;refine î (vj C kd hD b1 (by lia) (by lia) ?_);cases e:O.blt _ _ with
  |true=>
   have nx:∀l ,(∀k,kx key l (lo+k)=kx key (Õ b9) (lo+k))->VH key lo l (x+1):=by
    intro l hl i j Fb hj;rw[hl,hl];by_cases c1:j<x
    ·exact b2 i j Fb c1
    ·have:j=x:=by lia
     subst this;by_cases c2:i=j
     ·grind[Ő]
     ·have:=b2 i (j-1) (by lia) (by lia);rw[show lo+(j-1)=lo+j-1 by lia] at this;exact ű (ω e) this
   by_cases c:q>0
   ·rw[h_ c];refine î (zq ?_);have e3:lo+x-(q+1)=lo+(x-(q+1)):=by lia
    rw[e3];refine Ć ⟨0,rfl,b1.mir (by lia),nx _ (gb hz b4),by lia,λi a1 a2=>?_⟩;congr 1;lia
   ·rw[hZ c];exact Ć ⟨0,rfl,b1,nx _ (λ_=>rfl),by lia,λi a1 a2=>by congr 1;lia⟩
  |false=>
   refine î (vj C kd hD b1 (by lia) (by lia) ?_);cases e2:O.blt _ _ with
   |true=>
    exact Ć (h x q b9 b1 h1 (by lia) b2 b3 b4)
   |false=>
    have eq:=KeyOrd.kle_antisymm e2 e;refine Ć ⟨q+1,rfl,b1,λi j Fb hj=>?_,by lia,λi a1 a2=>?_⟩
    ·by_cases c1:j<x
     ·exact b2 i j Fb c1
     ·have:j=x:=by lia
      subst this;by_cases c2:i=j
      ·grind[Ő]
      ·rw[eq];have:=b2 i (j-1) (by lia) (by lia);rw[show lo+(j-1)=lo+j-1 by lia] at this;exact this
    grind
theorem By (C:JI Mqq A E s O key knd D){st:à}{Q:Option Nat->à->Prop}(kd:ć st0=knd)(hD:∀p∈a0.toList,D p)(hm:lo+m<=a0.size)(nm:n+1<=m)(hB:SB lo a0 st0 st)(hd:VH key lo (Õ st) (n+1))(h:∀r b9,SB lo a0 st0 b9->1<=r->r<=m->JJ key lo (Õ b9) r->Q (J r) b9):wpS Mqq A E s (L0 lo n m) Q st:=by
 refine î (wpS_lift (İ ⟨rfl,?_⟩));refine î (L8 C kd hD hm (by lia) nm hB hd λr q b9 b1 r1 r2 b2 b3 b4=>?_);dsimp only;have hz:lo+r<=(Õ b9).size:=by rw[b1.size];lia
 by_cases c:q>0
 ·rw[h_ c];refine î (zq ?_);have e3:lo+r-(q+1)=lo+(r-(q+1)):=by lia
  rw[e3];refine Bx C kd hD hm (by lia) r2 (b1.mir (by lia)) (λi j Fb hj=>?_) h;have e1:=gb hz b4 i;have e2:=gb hz b4 j;rw[e1,e2];exact b2 i j Fb hj
 ·rw[hZ c];exact Bx C kd hD hm (by lia) r2 b1 b2 h
theorem Bz (C:JI Mqq A E s O key knd D){st:à}{Q:Option Nat->à->Prop}(kd:ć st0=knd)(hD:∀p∈a0.toList,D p)(hm:lo+m<=a0.size)(m1:1<=m)(hB:SB lo a0 st0 st)(h:∀r b9,SB lo a0 st0 b9->1<=r->r<=m->JJ key lo (Õ b9) r->Q (J r) b9):wpS Mqq A E s (countRun' lo m) Q st:=by
 rw[Bu];refine î (Bw C kd hD hm (Ñ 1) m1 hB (λi j Fb hj=>by grind[Ő]) λn n1 n2 ha ho=>?_);by_cases c:n=m
 ·rw[h_ (by simpa using c)];exact Ć (h n st hB n1 n2 ha)
 ·rw[hZ (by simpa using c)];have hl:=ho.resolve_left c;by_cases c2:n>1
  ·rw[h_ c2];refine î (vj C kd hD hB (by lia) (by lia) ?_);cases e:O.blt _ _ with
   |true=>
    exact Ć (h n st hB n1 n2 ha)
   |false=>
    have hz:lo+n<=(Õ st).size:=by rw[hB.size];lia
    have al:∀k,0<=k->k<n->kx key (Õ st) (lo+k)=kx key (Õ st) (lo+n-1):=by
     intro k _ hk;have p1:=ha 0 k (by lia) hk;have p2:=ha k (n-1) (by lia) (by lia);rw[show lo+(n-1)=lo+n-1 by lia] at p2;exact KeyOrd.kle_antisymm p2 (ű (e) p1)
    refine î (zq ?_);have Zi:=hB.mir (n:=0) (m:=n) (by lia);refine By C kd hD hm (by lia) Zi (λi j Fb hj=>?_) h;have e1:=gb hz al i;have e2:=gb hz al j;rw[Nat.add_zero] at e1 e2;grind[Ő,ω]
  ·have:n=1:=by lia
   subst this;refine By C kd hD hm (by lia) hB (λi j Fb hj=>?_) h;grind[Ő,ω]
theorem D_ (C:JI Mqq A E s O key knd D){st:à}{ok:Nat}{Q:Bool->à->Prop}(kd:ć st0=knd)(hD:∀p∈a0.toList,D p)(hn:lo+n<=a0.size)(hok:ok<=n)(hB:SB lo a0 st0 st)(ha:JJ key lo (Õ st) ok)(h:∀b9,SB lo a0 st0 b9->JJ key lo (Õ b9) n->Q Z b9):wpS Mqq A E s (binarySort' lo n ok) Q st:=by
 rw[binarySort'_eq];refine î (wpS_mono (ů (I:=λk c b9=>c=(L,())/\SB lo a0 st0 b9/\JJ key lo (Õ b9) (min k n))
  (Q:=λc b9=>c=(L,())/\SB lo a0 st0 b9/\JJ key lo (Õ b9) n) ?go ?out ?at0) ?end_)
 case end_=>
  rintro c b9 ⟨rfl,b1,b2⟩;exact Ć (h b9 b1 b2)
 case at0=>
  refine⟨rfl,hB,λi j Fb hj=>?_⟩;by_cases c:ok=0
  ·grind[Ő]
  ·exact ha i j Fb (by lia)
 case out=>
  lia
 case go=>
  rintro k c AB CZ YK ⟨rfl,b1,b2⟩;have e1:min k n=k:=by lia
  rw[e1] at b2;have hk:lo+k<a0.size:=by lia
  refine î (wpS_mono (ů (I:=λx c nB=>nB=AB/\∃l r,c=(L,l,r)/\l<=r/\r<=k/\r-l<=k-x/\
    (∀i,i<l->O.kle (kx key (Õ AB) (lo+i)) (kx key (Õ AB) (lo+k)))/\∀i,r<=i->i<k->O.klt (kx key (Õ AB) (lo+k)) (kx key (Õ AB) (lo+i)))
   (Q:=λc nB=>nB=AB/\∃l,c=(L,l,l)/\l<=k/\(∀i,i<l->O.kle (kx key (Õ AB) (lo+i)) (kx key (Õ AB) (lo+k)))/\∀i,l<=i->i<k->O.klt (kx key (Õ AB) (lo+k)) (kx key (Õ AB) (lo+i))) ?go2 ?out2 ?CY) ?end2)
  case CY=>lia
  case out2=>
   rintro c nB ⟨rfl,l,r,rfl,q1,q2,q3,q4,q5⟩;have:l=r:=by lia
   subst this;exact⟨rfl,l,rfl,q2,q4,q5⟩
  case go2=>
   rintro x c nB _ hx ⟨rfl,l,r,rfl,q1,q2,q3,q4,q5⟩;dsimp only;by_cases c:l≥r
   ·rw[h_ c];have:l=r:=by lia
    subst this;exact Ć ⟨rfl,l,rfl,q2,q4,q5⟩
   ·rw[hZ c];refine î (vj C kd hD b1 hk (by lia) ?_);cases e:O.blt _ _ with
    |true=>
     exact Ć ⟨rfl,l,(l+r) / 2,rfl,by lia,by lia,by lia,q4,λi a1 a2=>KeyOrd.klt_of_klt_of_kle e (b2 _ _ a1 a2)⟩
    |false=>
     exact Ć ⟨rfl,(l+r) / 2+1,r,rfl,by lia,by lia,by lia,λi a1=>ű (b2 i _ (by lia) (by lia)) (e),q5⟩
  case end2=>
   rintro c nB ⟨rfl,l,rfl,q2,q4,q5⟩;dsimp only;rw[moveDown'_eq];have e2:lo+k-(lo+l)=k-l:=by lia
   refine î (wpS_modify (Ć ⟨rfl,?_,?_⟩))
   ·exact b1.bub hk (by lia)
   ·have hz:lo+k<(Õ nB).size:=by rw[b1.size];exact hk
    intro i j Fb hj;rw[e2,L7 hz (by lia),L7 hz (by lia),show k-(k-l)=l by lia]
    repeat' split
    all_goals first
     | (lia)
     |exact Ő _
     |exact q4 _ (by lia)
     |exact ω (q5 _ (by lia) (by lia))
     |exact b2 _ _ (by lia) (by lia)
end
end Hc.Ts
namespace Hc.Ts
noncomputable def L9 (lo n:Nat):StateT à Sem (ForInStep (Option Unit×Nat)):=do
 modify λst=>setPending st ((Ĥ st).push (lo,n,0))
 pure (.yield (L,lo+n))
noncomputable def srC (pw:Nat)(_:Nat)(_:Option Unit×Unit):StateT à Sem (ForInStep (Option Unit×Unit)):=do
 let st ←get
 let J (_,_,pH):=(if (Ĥ st).size>1 then (Ĥ st)[(Ĥ st).size-2]? else L)|pure (.done (L,()))
 if pH<=pw then pure (.done (L,())) else do
  let r ←mergeAt' ((Ĥ st).size-2)
  if (!r)=Z then pure (.done (J (),())) else pure (.yield (L,()))
noncomputable def Z6 (pw:Nat)(st:à):à:=setPending st ((Ĥ st).modify ((Ĥ st).size-1) λx=>match x with|(p,n,_)=>(p,n,pw))
def Xx (size lo n pw:Nat):StateT à Sem (ForInStep (Option Unit×Nat)):=do
 let c ←forIn [0:size] ((L,()):Option Unit×Unit) (srC pw)
 match c.1 with
 |some r=>pure (.done (J r,lo))
 |none=>do
  modify (Z6 pw)
  L9 lo n
def Z7 (size lo n:Nat):StateT à Sem (ForInStep (Option Unit×Nat)):=do
 let st ←get
 let J (p1,n1,_):=(Ĥ st).back? | L9 lo n
 Xx size lo n (power' size (2*p1+n1) (2*p1+n1+n1+n) size)
def srO (size Fc:Nat)(_:Nat)(c:Option Unit×Nat):StateT à Sem (ForInStep (Option Unit×Nat)):=
 if c.2≥size then pure (.done (L,c.2)) else do
  let J n ←countRun' c.2 (size-c.2)|pure (.done (J (),c.2))
  if n<Fc then do
   liftM (rule "list.sort.binary-insertion")
   let r ←binarySort' c.2 (min (size-c.2) Fc) n
   if (!r)=Z then pure (.done (J (),c.2)) else Z7 size c.2 (min (size-c.2) Fc)
  else Z7 size c.2 n
noncomputable def srI (p:Array (Nat×Nat×Nat)):Nat:=
 if Option.any (λx=>decide (x<(p[p.size-2+1]?).elim 0 λx=>x.2.1)) (if p.size-2>0 then Option.map (λx=>x.2.1) p[p.size-2-1]? else L)=Z then p.size-2-1 else p.size-2
def srF (_:Nat)(_:Option Unit×Unit):StateT à Sem (ForInStep (Option Unit×Unit)):=do
 let st ←get
 if (Ĥ st).size<=1 then pure (.done (L,())) else do
  let r ←mergeAt' (srI (Ĥ st))
  if (!r)=Z then pure (.done (J (),())) else pure (.yield (L,()))
theorem zt:sortRuns'=(do
  let st ←get
  let c ←forIn [0:(Õ st).size] ((L,0):Option Unit×Nat) (srO (Õ st).size (minRun' (Õ st).size (Õ st).size 0))
  match c.1 with
  |some r=>pure r
  |none=>do
   let d ←forIn [0:(Õ st).size] ((L,()):Option Unit×Unit) srF
   match d.1 with
   |some r=>pure r
   |none=>pure ()):=by kernel_rfl
section
variable {A:Ð}{O:ņ}{key:æ->O.α}{knd:ŏ}{D:æ->Prop}{a0:Array æ}
theorem Pp {l:Array æ}(h:JJ key 0 l l.size):JH key l.toList:=by
 refine List.pairwise_iff_getElem.mpr λi j hi hj Fb=>?_;have at_:∀k,(hk:k<l.toList.length)->kx key l (0+k)=key l.toList[k]:=λk hk=>by
  unfold kx;rw[ż,<-Α,á hk];rfl
 have:=h i j (by lia) (by rwa [Ğ] at hj)
 rwa [at_ i hi,at_ j hj] at this
def Xy (key:æ->O.α)(a0:Array æ)(st:à):Prop:=Ű st=L/\(Õ st).toList.Perm a0.toList/\JH key (Õ st).toList/\(Ĥ st).size<=1
theorem BA (C:JI Mqq A E s O key knd D)(hD:∀p∈a0.toList,D p){st:à}(hk:ć st=knd)(hf:Ű st=L)(ha:Õ st=a0)(hp:Ĥ st=#[])(hz:a0.size<64)(h1:1<=a0.size){Q:Unit->à->Prop}
  (q:∀b9,Ű b9=L->(Õ b9).toList.Perm a0.toList->JH key (Õ b9).toList->Q () b9):wpS Mqq A E s sortRuns' Q st:=by
 have hmr:minRun' a0.size a0.size 0=a0.size:=by
  obtain⟨f,hf⟩:∃f,a0.size=f+1:=⟨a0.size-1,by lia⟩;have:minRun' (f+1) a0.size 0=a0.size:=by rw[minRun'_succ,h_ hz];rfl
  lia
 rw[zt];refine î (wpS_get ?_);rw[ha,hmr];have push:∀b9,SB 0 a0 st b9->JJ key 0 (Õ b9) a0.size->∀{Q:ForInStep _->à->Prop},(∀nB,Xy key a0 nB->Q (.yield (L,0+a0.size)) nB)->wpS Mqq A E s (Z7 a0.size 0 a0.size) Q b9:=by
  intro b9 b YI Q h;have pe:Ĥ b9=#[]:=by rw[b.rest];exact hp
  refine î (wpS_get ?_);rw[pe];refine î (wpS_modify (Ć (h _ ⟨?_,?_,?_,?_⟩)))
  ·rw[b.rest];exact hf
  ·exact ϵ.mp b.perm
  ·rw[<-b.size] at YI;exact Pp YI
  ·rw[pe];exact Ñ 1
 have hD' :=hD;refine î (wpS_mono (ů (I:=λx c b9=>c.1=L/\((x=0/\c.2=0/\b9=st)\/(c.2=a0.size/\Xy key a0 b9))) (Q:=λc b9=>c.1=L/\Xy key a0 b9) ?go ?out ⟨rfl,.inl ⟨rfl,rfl,rfl⟩⟩) ?post)
 case out=>
  lia
 case go=>
  rintro x ⟨c1,lo⟩ b9 _ hx ⟨e,h⟩;unfold srO;rcases h with⟨rfl,rfl,rfl⟩|⟨rfl,h⟩
  ·rw[hZ (by lia)];have b0:SB 0 a0 b9 b9:=⟨by rw[ha],λ_ _=>by rw[ha],rfl⟩;refine î (Bz C hk hD' (by lia) (by lia) b0 λn nB b1 n1 n2 YI=>?_);dsimp only;rw[Nat.sub_zero,Nat.min_self] at *;by_cases c3:n<a0.size
   ·rw[h_ c3];refine î (wpS_lift (İ ⟨rfl,?_⟩));refine î (D_ C hk hD' (by lia) (by lia) b1 YI λVo b2 abb=>?_);exact push Vo b2 abb λst4 o=>⟨rfl,.inr ⟨ż _,o⟩⟩
   ·rw[hZ c3];obtain rfl:n=a0.size:=by lia
    exact push nB b1 YI λst4 o=>⟨rfl,.inr ⟨ż _,o⟩⟩
  ·rw[h_ (Ñ _)];exact Ć ⟨rfl,h⟩
 case post=>
  rintro⟨c1,lo⟩ b9 ⟨e,h⟩;subst e;refine î (wpS_mono (ů (I:=λx c b9=>c=(L,())/\Xy key a0 b9) (Q:=λc b9=>c=(L,())/\Xy key a0 b9) ?_ ?_ ⟨rfl,h⟩) ?_)
  ·rintro x c nB _ hx ⟨rfl,h2⟩;refine î (wpS_get ?_);rw[h_ h2.2.2.2];exact Ć ⟨rfl,h2⟩
  ·lia
  ·rintro c nB ⟨rfl,h2⟩;exact Ć (q nB h2.1 h2.2.1 h2.2.2.1)
end
end Hc.Ts
namespace Hc.Ts
section
variable {A:Ð}{O:ņ}{key:æ->O.α}{knd:ŏ}{D:æ->Prop}
theorem yp {vs:List d}{l:List æ}(h:l.Perm (vs.zip vs)):(l.map (·.2)).Perm vs/\∀p∈l,p=(p.2,p.2):=by
 have e:(vs.zip vs).map (·.2)=vs:=by
  grind[Ϙ,Ç,List.map_snd_zip]
 refine⟨by grind,λp hp=>?_⟩;have hp:=h.mem_iff.mp hp;clear h e
 induction vs with
 |nil=>cases hp
 |cons v r ih=>
  grind[Ϙ,Ø]
theorem L_ {vs:List d}{P:Fin->À->Prop}(ho:s.heap.get? a=J (seqObj "list" vs.toArray n))(hz:vs.length<64)(hk:2<=vs.length->∀(h6:É) (Q:ŏ->À->Prop),(∀b o,b≠a->s.heap.get? b=J o->h6.get? b=J o)->Q knd {s with heap:=h6}->Á (Ä prog w) A (keyKind' vs.toArray) Q E {s with heap:=h6})(hC:2<=vs.length->∀h6:É,(∀b o,b≠a->s.heap.get? b=J o->h6.get? b=J o)->JI (Ä prog w) A E {s with heap:=h6} O key knd D)(hD:∀v∈vs,D (v,v))(h:∀out:List d,out.Perm vs->out.Pairwise (λx y=>O.kle (key (x,x)) (key (y,y)))->P (.done (.ret .none)) {s with heap:=sortedHeap s.heap a vs out.toArray}) :
  Á (Ä prog w) A (Builtin.«list.sort» ⟨[.ref a],[]⟩) P E s:=by
 have CW:vs.length<=Å:=by rw[Ĕ];lia
 rw[list_sort_plain];refine t (listItems_at ho rfl (t (listUpdate_at ho rfl ?_)));obtain⟨e1,o1⟩:∃e1,(s.heap.update a _).get? a=J (seqObj "list" #[] e1):=⟨_,get?_update_seq ho (λ_=>#[])⟩;refine t (seqEpoch_at o1 rfl (t (wpAny_newTuple (t (wpAny_newList (õ ?_))) (by simpa using CW))));have kp:∀b o,b≠a->s.heap.get? b=J o->(((s.heap.update a (Ŀ λ_=>#[])).push (seqObj "tuple" vs.toArray 0)).push (seqObj "list" #[] 0)).get? b=J o:=λb o hb e=>
  Ó _ (Ó _ ((Heap.get?_update_ne _ _ _ _ hb).trans e))
 have o6:(((s.heap.update a _).push (seqObj "tuple" vs.toArray 0)).push (seqObj "list" #[] 0)).get? a=J _:=Ó _ (Ó _ o1);have fin:∀b9 ,Ű b9=L->(Õ b9).toList.Perm (pairsOf vs).toList->JH key (Õ b9).toList->Á (Ä prog w) A (do
   let touched:=(←seqEpoch a) != e1
   Builtin.List.listUpdate (.ref a) λ_=>(Õ b9).map (·.2)
   if let J e:=Ű b9 then rule "list.sort.comparison-raised";throw e
   if touched then rule "list.sort.modified";raiseError "ValueError" "list modified during sort"
   ret .none) P E {s with heap:=((s.heap.update a (Ŀ λ_=>#[])).push (seqObj "tuple" vs.toArray 0)).push (seqObj "list" #[] 0)}:=by
  intro b9 f1 f2 f3;rw[pairsOf_toList] at f2;obtain⟨m1,m2⟩:=yp f2;refine t (seqEpoch_at o6 rfl (t (listUpdate_at o6 rfl ?_ (hsz2:=by
   rw[Array.size_map,<-Ğ,f2.length_eq,List.length_zip];lia))))
  rw[f1];simp only[bne_self_eq_false,if_false];refine Â ?_;have e:(Õ b9).map (·.2)=((Õ b9).toList.map (·.2)).toArray:=by apply Array.ext';simp
  rw[e];refine h _ m1 (Χ.mpr (List.Pairwise.imp_of_mem (λ{x y} hx hy r=>?_) f3));grind
 by_cases h2:vs.length<2
 ·rw[h_ (by exact h2),h_ (by exact h2)];refine t (Â ?_);refine fin _ rfl (ľ _) ?_;change JH key (pairsOf vs).toList;rw[pairsOf_toList]
  match vs,h2 with
  | [],_=>exact List.Pairwise.nil
  | [v],_=>exact ķ _ _
  |_::_::_,h2=>exact absurd h2 (by simp)
 ·rw[hZ (by exact h2),hZ (by exact h2)];refine t (hk (by lia) _ _ kp ?_);refine t (ý (BA (hC (by lia) _ kp) (a0:=pairsOf vs) (λp hp=>?_) rfl rfl rfl rfl (by rw[<-Ğ,pairsOf_toList,List.length_zip];lia) (by rw[<-Ğ,pairsOf_toList,List.length_zip];lia)
   (Q:=λ_ b9=>Ű b9=L/\(Õ b9).toList.Perm _/\JH key (Õ b9).toList) λb9 a1 a2 a3=>⟨a1,a2,a3⟩) ?_ λ_ _ e=>e)
  ·rw[pairsOf_toList] at hp;obtain⟨m1,m2⟩:=yp (ľ _);rw[m2 p hp];exact hD _ (m1.mem_iff.mp (ÿ hp))
  ·rintro⟨⟨⟩,b9⟩ s' ⟨rfl,f1,f2,f3⟩;exact fin b9 f1 f2 f3
end
end Hc.Ts
namespace Hc.Ts
open PySem.W
noncomputable def fN:List Int->List Int->Bool
 | [],[]=>M
 | [],_::_=>Z
 |_::_,[]=>M
 |x::xs,y::ys=>if x=y then fN xs ys else decide (x<y)
theorem kD:∀a,fN a a=M
 | []=>rfl
 |x::xs=>by unfold fN;rw[h_ rfl];exact kD xs
theorem mP:∀a b c,fN a b=Z->fN b c=Z->fN a c=Z
 | [],[],_,h,_=>by cases h
 | [],_::_,[],_,h=>by cases h
 | [],_::_,_::_,_,_=>rfl
 |_::_,[],_,h,_=>by cases h
 |_::_,_::_,[],_,h=>by cases h
 |x::xs,y::ys,z::zs,h1,h2=>by
  unfold fN at h1 h2 |-;by_cases e1:x=y
  ·subst e1;rw[h_ rfl] at h1;by_cases e2:x=z
   ·subst e2;rw[h_ rfl] at h2 |-;exact mP xs ys zs h1 h2
   ·rw[hZ e2] at h2 |-;exact h2
  lia
theorem vl:∀a b c,fN a c=Z->fN a b=Z\/fN b c=Z
 | [],[],_::_,_=>.inr rfl
 | [],_::_,_::_,_=>.inl rfl
 | [],_,[],h=>by cases h
 |_::_,_,[],h=>by cases h
 |_::_,[],_::_,_=>.inr rfl
 |x::xs,y::ys,z::zs,h=>by
  unfold fN at h |-;by_cases e:x=z
  ·subst e;rw[h_ rfl] at h;by_cases e2:x=y
   ·subst e2;rw[h_ rfl,h_ rfl];exact vl xs ys zs h
   lia
  lia
theorem g7:∀a b,fN a b=M->fN b a=M->a=b
 | [],[],_,_=>rfl
 | [],_::_,h,_=>by cases h
 |_::_,[],_,h=>by cases h
 |x::xs,y::ys,h1,h2=>by
  unfold fN at h1 h2;by_cases e:x=y
  ·subst e;rw[h_ rfl] at h1 h2;rw[g7 xs ys h1 h2]
  lia
def Pq:ņ:=⟨List Int,fN,kD,mP,vl,g7⟩
noncomputable def zu (h:É)(v:d):List Int:=match v with
 | .ref a=>match h.get? a with
  |some o=>match o.data with
   | .seq aH _=>aH.toList.map numOf
   |_=>[]
  |none=>[]
 |_=>[]
def BB (h:É)(v:d):Prop:=∃a aH ns,v=.ref a/\h.IsTuple a aH/\ü aH.toList ns/\ns≠[]
theorem BC:∀{vs:List d} {ns:List Int},ü vs ns->vs.map numOf=ns
 |_,_,.nil=>rfl
 |_,_,.cons n t r=>by rw[Ç,BC r];rfl
theorem oy {aH:Array Ì}(t:h.IsTuple a aH)(i:ü aH.toList ns):zu h (.ref a)=ns:=by
 obtain⟨o,e,_,n,d⟩:=t;grind[zu,BC]
section
variable {A:Ð}{b fin:Bool}{Q:Bool->À->Prop}
theorem BD:∀{xs ys:List d} {ns ms:List Int} {i:Nat},ü xs ns->ü ys ms->fin=decide (ns.length<ms.length)->Q (fN ns ms) s->KatLex prog w A b fin Q (xs.zip ys) i s
 |_,_,_,_,i,.nil,.nil,hf,h=>by subst hf;exact kat_nil h
 |_,_,_,_,i,.nil,.cons m t r,hf,h=>by subst hf;exact kat_nil (by exact h)
 |_,_,_,_,i,.cons n t r,.nil,hf,h=>by subst hf;exact kat_nil (by exact h)
 |_,_,_,_,i,.cons n t r,.cons m u q,hf,h=>by
  refine kat_cons (wpAny_eqBool_int ?_);unfold fN at h;by_cases e:n=m
  ·subst e;rw[h_ rfl] at h;rw[beq_self_eq_true];refine kat_yes (BD r q ?_ h);rw[hf];simp
  ·rw[hZ e] at h;rw[beq_eq_false_iff_ne.mpr e];refine kat_no ?_;cases hb:(b&&i==0) with
   |true=>exact oneLt_int h
   |false=>exact kat_one _ _ (lt_int h)
theorem Pr {hp:É}(keep:∀v,BB hp v->BB s.heap v/\zu s.heap v=zu hp v):JI (Ä prog w) A E s Pq (λx=>zu hp x.1) (tuples' Z) (λx=>BB hp x.1) where
 lt:=λx y st Q dx dy kd q=>by
  obtain⟨k1,k2⟩:=keep _ dx;obtain⟨k3,k4⟩:=keep _ dy;obtain⟨a,xs,ns,e1,t1,i1,_⟩:=k1;obtain⟨c,ys,ms,e2,t2,i2,_⟩:=k3;rw[<-k2,<-k4,e1,e2,oy t1 i1,oy t2 i2] at q;rw[lt'_eq];refine î (wpS_get ?_);rw[kd,e1,e2];obtain⟨o1,g1,_,n1,d1⟩:=t1;obtain⟨o2,g2,_,n2,d2⟩:=t2;refine î (wpS_lift (Ě (kat_lt g1 d1 g2 d2 (BD i1 i2 ?_ ⟨rfl,?_⟩))))
  ·rw[<-i1.length,<-i2.length,Ğ,Ğ]
  ·exact Ć q
end
end Hc.Ts
namespace Hc.Dw
open PySem.W PySem.Calls
section
variable {A:Ð}{d r I:Ý}
def Ug (hh:A.handled=L)(wV:d≠I):Walks prog w A I [I,d] [I] ds.size (λi v=>∃e,ds[i]? = J e/\v=e.key) (λi h=>h.IsKeyIter I d i ds.size ep/\iB h d ds ep) where
 sub:=λb hb=>by grind
 frame:=λ_ _ _ st hk=>⟨st.1.at λo e=>hk I (by simp) o e,st.2.at λo e=>hk d (by simp) o e⟩
 item:=λi s Q E hi st hQ=>RW st.1 st.2 hi λh' t' sb=>hQ _ h' s.toks ⟨_,getElem?_pos ds i hi,rfl⟩ ⟨t',st.2.at λo e=>sb.extBut _ _ wV e⟩ λb o hb e=>sb.extBut b o (λh=>hb (by simp[h])) e
 done:=λs Q E st hQ=>RX hh st.1 st.2 (Ñ _) λh' eb=>hQ h' s.toks λb o hb e=>eb b o (λh=>hb (by simp[h])) e
 self:=λ_ _ _ _ st hQ=>wpAny_pyIter_keyiter st.1 hQ
def Uh (hh:A.handled=L)(wV:d≠I):Walks prog w A I [I,d] [I] ds.size (λi v=>∃e,ds[i]? = J e/\v=e.val) (λi h=>h.IsValIter I d i ds.size ep/\iB h d ds ep) where
 sub:=λb hb=>by grind
 frame:=λ_ _ _ st hk=>⟨st.1.at λo e=>hk I (by simp) o e,st.2.at λo e=>hk d (by simp) o e⟩
 item:=λi s Q E hi st hQ=>Xq st.1 st.2 hi λh' t' sb=>hQ _ h' s.toks ⟨_,getElem?_pos ds i hi,rfl⟩ ⟨t',st.2.at λo e=>sb.extBut _ _ wV e⟩ λb o hb e=>sb.extBut b o (λh=>hb (by simp[h])) e
 done:=λs Q E st hQ=>Xr hh st.1 st.2 (Ñ _) λh' eb=>hQ h' s.toks λb o hb e=>eb b o (λh=>hb (by simp[h])) e
 self:=λ_ _ _ _ st hQ=>wpAny_pyIter_valiter st.1 hQ
def Xz (lo:(d==Ă)=M):KdlSrc prog w "dict" d d ds.size (λi v=>∃e,ds[i]? = J e/\v=e.key) (λh=>iB h d ds ep) where
 type:=λ_ hm=>hm.ty
 there:=λ_ hm=>⟨hm.lt,hm.lt⟩
 keep:=λ_ _ hm hk=>hm.at λo e=>hk d (.inl rfl) o e
 notList:=by decide
 notTuple:=by decide
 hint:=λ_ _ _ _ hm hq=>kdl_hint_dict hm.ty hq
 iter:=λ_ s hh hm=>⟨_,_,(λ_ _ hq=>RV lo hm hq),Ug hh (Þ hm.lt),⟨⟨_,Ü _ rfl,rfl,rfl⟩,hm.at λo e=>Ó _ e⟩⟩
theorem rK {P:Nat->Ì->Prop}{OK:É->Prop}(K:KdlSrc prog w T r d n P OK)(hh:A.handled=L)(hok:OK s.heap)(hn:n<=Å){Q:List Ì->À->Prop}(q:∀h' tk bX,(∀b o,s.heap.get? b=J o->h'.get? b=J o)->ItemsOf P bX n->Q bX.toList {s with heap:=h',toks:=tk}):Á (Ä prog w) A (collect (.ref r)) Q E s:=by
 have lt:=K.there _ hok;refine t (wpAny_runValue (Ť PySem.F.entry_proto_collect ?_));refine t (Į (Â ⟨ŵ PySem.F.plain_list_iadd _,Ť PySem.F.entry_list_iadd ?_⟩));rw[Around.under_plainId PySem.F.plain_list_iadd _];have hS:(s.heap.push _).get? _=J {cls:=.type "list",data:=.seq #[] 0}:=Ü _ rfl;refine kdl_extend (R:=λx s'=>match x with
  | .ok (.ret v)=>Á _ A (match v with
   | .ref a=>do match (←load a).data with
    | .seq xs _=>pure xs.toList
    |_=>unsupported _
   |_=>unsupported _) Q E s'
  | .ok _=>False
  | .error e=>E e s') K hh (K.keep _ _ hok λb _ o e=>Ó _ e) _ (ò lt.1) (ò lt.2) _ 0 hS (λh' tk bX c' k' SH pj=>?_) hn
 refine t (wpAny_load SH ?_);exact Â (q h' tk bX (λb o e=>k' b o (Þ (Ô e)) (Ó _ e)) pj)
end
end Hc.Dw
namespace L2
open Hc.Dw Hc.Ts
noncomputable def XA:V->Int
 | .int i=>i
 |_=>0
def iC (H:Hp)(b:I):List Int:=match H b with
 |some (.tup xs)=>xs.map XA
 |_=>[]
theorem BE (ns:List Int):(ns.map V.int).map XA=ns:=by
 induction ns with
 |nil=>rfl
 |cons n r ih=>rw[Ç,Ç,ih];rfl
def Pt (K:È)(H:Hp)(p:I)(bs:List I):Prop:=fG K H p (bs.map V.ref)\/gR K H p (bs.map V.ref)\/∃ep es,H p=J (DN p ep es)/\es.map (·.2.1)=bs
theorem fO:∀{bs:List I} {aH:List d},aZ (bs.map V.ref) aH->aH=bs.map Value.ref
 | [],_,.nil=>rfl
 |b::bs,_,.cons r t=>by rw[fO t];cases r;rfl
theorem yq:∀(bs:List I),aZ (bs.map V.ref) (bs.map Value.ref)
 | []=>.nil
 |b::bs=>.cons rfl (yq bs)
theorem Iz {bs:List I}{out:List d}(h:out.Perm (bs.map Value.ref)):∃lV:List I,out=lV.map Value.ref/\lV.Perm bs:=by
 let g:d->I:=λv=>match v with
  | .ref a=>a
  |_=>0
 refine⟨out.map g,?_,?_⟩
 ·rw[ñ]
  conv=>lhs;rw[<-List.map_id out]
  apply ö;intro v hv;obtain⟨b,_,rfl⟩:=Ú.mp (h.mem_iff.mp hv);rfl
 ·have:=h.map g;rw[ñ] at this;have e:bs.map (g∘Value.ref)=bs:=by
   conv=>rhs;rw[<-List.map_id bs]
   rfl
  lia
theorem Pu (I:aO X pins Y H s)(h:H b=J (.tup (ns.map V.int)))(n:ns≠[]):BB s.heap (.ref b)/\zu s.heap (.ref b)=iC H b:=by
 obtain⟨_,aH,rv,it,_⟩:=I.hok b _ h;have ia:=fH rv;refine⟨⟨b,aH.toArray,ns,rfl,it,by lia,n⟩,?_⟩;rw[oy it (by simpa using ia)];unfold iC;rw[h];exact (BE ns).symm
theorem yr {v:d}(t:BB h v)(k:∀b aH,h.IsTuple b aH->h'.IsTuple b aH):BB h' v/\zu h' v=zu h v:=by
 obtain⟨a,aH,ns,rfl,q,i,n⟩:=t;refine⟨⟨a,aH,ns,rfl,k a aH q,i,n⟩,?_⟩;rw[oy q i,oy (k a aH q) i]
theorem F_ {h:É}:∀{vs:List Ì},(∀v∈vs,BB h v)->∃fs,PySem.W.KatTups h vs fs/\fs.length=vs.length/\∀f∈fs,∃n t,f=.int n t
 | [],_=>⟨[],.nil,rfl,λf hf=>by cases hf⟩
 |v::vs,hv=>by
  obtain⟨fs,k1,k2,k3⟩:=F_ λu hu=>hv u (Ö _ hu);obtain⟨a,aH,ns,rfl,⟨o,e,c,n,d⟩,i,ne⟩:=hv v Ï;have:∃m t r,aH.toList=.int m t::r:=by
   generalize aH.toList=l at i;cases i with
   |nil=>lia
   |cons m t r=>lia
  obtain⟨m,t,r,el⟩:=this;refine⟨.int m t::fs,.cons e c d (by rw[<-Α,el];rfl) k1,by rw[Ù,Ù,k2],λf hf=>?_⟩;grind
noncomputable def Z8:d->I
 | .ref a=>a
 |_=>0
theorem vn {O:ņ}{p:Ý}{bs:List Ý}{Q:VK}(kf:Ý->O.α)(knd:ŏ)(I:aO X pins Y H s)(hz:bs.length<64)(hu:X.A.units+64<Ò)
  (kk:∀(A:Ð) (E:d->À->Prop) (r_:List Ý) (s6:À) (Q6:ŏ->À->Prop),r_.Perm bs->2<=r_.length->(∀b o,s.heap.get? b=J o->s6.heap.get? b=J o)->Q6 knd s6->Á (Ä X.prog X.w) A (keyKind' (r_.map Value.ref).toArray) Q6 E s6)
  (kc:2<=bs.length->∀(A:Ð) (E:d->À->Prop) (s6:À),A.units+30<Ò->(∀b o,s.heap.get? b=J o->s6.heap.get? b=J o)->JI (Ä X.prog X.w) A E s6 O (λx=>kf (Z8 x.1)) knd (λx=>∃b∈bs,x.1=.ref b))
  (YJ:∀(Q:List d->À->Prop) (E:d->À->Prop),(∀h1 tk (r_:List Ý),r_.Perm bs->(∀b o,s.heap.get? b=J o->h1.get? b=J o)->Q (r_.map Value.ref) {s with heap:=h1,toks:=tk})->Á (Ä X.prog X.w) X.A.in1 (collect (.ref p)) Q E s)
  (q:∀(l:Ý) (lV:List Ý),H l=L->lV.Perm bs->lV.Pairwise (λx y=>O.blt (kf y) (kf x)=M)->Q (.ref l) (bc H l (.lst (lV.map V.ref)))) :
  Á (Ä X.prog X.w) X.A (call (.builtin "sorted") [.ref p]) (EP X pins Y Q) X.xe s:=by
 refine afr kind_sorted plain_sorted entry_sorted (args_sorted1 _) ?_;refine t (Â ?_);refine t (YJ _ _ λh1 tk r_ JD k1=>?_);have hz:r_.length<64:=by rw[JD.length_eq];exact hz
 have CW:r_.length<=Å:=by rw[Ĕ];lia
 have I1:=I.kept (t':=tk) k1;refine t (wpAny_newList ?_ (by rw[Ê];exact CW));have Vi:(h1.push _).get? _=J (seqObj "list" (r_.map Value.ref).toArray 0):=Ü _ rfl;have kt:∀(h6:É),(∀b o,b≠h1.objs.size->(h1.push {cls:=.type "list",data:=.seq (r_.map Value.ref).toArray}).get? b=J o->h6.get? b=J o)->∀b o,s.heap.get? b=J o->h6.get? b=J o:=λh6 k6 b o e=>
  k6 b o (Þ (Ô (k1 b o e))) (Ó _ (k1 b o e))
 refine t (õ (û slot_list_sort ⟨_,Vi,rfl⟩ entry_list_sort (L_ Vi (by rw[Ê];exact hz)
  (λh2 h6 Q6 k6 q6=>kk _ _ r_ _ _ JD (by rw[Ê] at h2;exact h2) (kt h6 k6) q6) (λh2 h6 k6=>kc (by rw[Ê] at h2;rw[<-JD.length_eq];exact h2) _ _ _ (by lia) (kt h6 k6)) (λv hv=>by
   grind) λout hp hw=>⟨_,rfl,?_⟩) (args_list_sort _)))
 obtain⟨lV,e,Aw⟩:=Iz hp;subst e;obtain⟨ee,he⟩:=sortedHeap_at Vi;have keep:∀b o,h1.get? b=J o->(sortedHeap (h1.push {cls:=.type "list",data:=.seq (r_.map Value.ref).toArray}) _ (r_.map Value.ref) (lV.map Value.ref).toArray).get? b=J o:=λb o e=>by
  have hb:=Ô e;rw[sortedHeap_old (Þ hb) (by rw[Ī];exact ϛ hb)];exact Ó _ e
 have SI:(lV.map V.ref).length<=Å:=by rw[Ê,Aw.length_eq];exact CW
 refine Â ⟨_,rfl,.ref _,_,I1.laid keep (Ñ _) (show c8 X.prog X.w _ _ _ (.lst _) from ⟨SI,lV.map Value.ref,ee,yq lV,by simpa using he⟩),rfl,q _ lV (I1.hok.fresh (Ñ _)) (Aw.trans JD) ?_⟩;exact Χ.mp hw
theorem BF {p:Ý}{bs:List Ý}{Q:VK}(I:aO X pins Y H s)(hz:bs.length<64)(hu:X.A.units+64<Ò)(tu:∀b∈bs,∃ns:List Int,H b=J (.tup (ns.map V.int))/\ns≠[])
  (YJ:∀(Q:List Ì->À->Prop) (E:Ì->À->Prop),(∀h1 tk (r_:List Ý),r_.Perm bs->(∀b o,s.heap.get? b=J o->h1.get? b=J o)->Q (r_.map Value.ref) {s with heap:=h1,toks:=tk})->Á (Ä X.prog X.w) X.A.in1 (collect (.ref p)) Q E s)
  (q:∀(l:Ý) (lV:List Ý),H l=L->lV.Perm bs->lV.Pairwise (λx y=>fN (iC H y) (iC H x)=M)->Q (.ref l) (bc H l (.lst (lV.map V.ref)))) :
  Á (Ä X.prog X.w) X.A (call (.builtin "sorted") [.ref p]) (EP X pins Y Q) X.xe s:=by
 have tI:∀b∈bs,BB s.heap (.ref b)/\zu s.heap (.ref b)=iC H b:=λb hb=>by
  obtain⟨ns,e,ne⟩:=tu b hb;exact Pu I e ne
 have kt:∀(h6:É),(∀b o,s.heap.get? b=J o->h6.get? b=J o)->∀b aH,s.heap.IsTuple b aH->h6.IsTuple b aH:=λh6 k6 b aH ⟨o,e,z⟩=>⟨o,k6 b o e,z⟩;refine vn (O:=Pq) (iC H) (tuples' Z) I hz hu (λA E r_ s6 Q6 JD h2 k6 q6=>?_) (λ_ A E s6 hA k6=>?_) YJ q
 ·obtain⟨fs,f1,f2,f3⟩:=F_ λv hv=>by
   obtain⟨b,hb,rfl⟩:=Ú.mp hv;exact (yr (tI b (JD.mem_iff.mp hb)).1 (kt _ k6)).1
  exact PySem.W.kat_kind (T:=.type "int") f1 (by rw[f2,Ê];lia) (λv hv=>by
   obtain⟨n,t,rfl⟩:=f3 v hv;exact PySem.W.Looks.of_pure rfl) (by decide) q6
 ·have c:=Pr (prog:=X.prog) (w:=X.w) (A:=A) (E:=E) λv hv=>yr hv (kt _ k6);refine⟨λx y st Q dx dy kd qq=>?_⟩;obtain⟨b,hb,e1⟩:=dx;obtain⟨d,hd,e2⟩:=dy;refine c.lt x y st Q (by rw[e1];exact (tI b hb).1) (by rw[e2];exact (tI d hd).1) kd ?_;rw[e1,e2,(tI b hb).2,(tI d hd).2];rw[e1,e2] at qq;exact qq
theorem zv (hc:X.calm=Z)(hu:X.A.units+64<Ò):eS X (.builtin "sorted") (λxs H Q=>∃(p:Ý) (bs:List Ý),xs=[.ref p]/\Pt X.K H p bs/\bs.length<64/\(∀b∈bs,∃ns:List Int,H b=J (.tup (ns.map V.int))/\ns≠[])/\
  ∀(l:Ý) (lV:List Ý),H l=L->lV.Perm bs->lV.Pairwise (λx y=>fN (iC H y) (iC H x)=M)->Q (.ref l) (bc H l (.lst (lV.map V.ref)))):=by
 intro pins s Y H xs us Q I r h;obtain⟨p,bs,rfl,Vh,hz,tu,q⟩:=h;obtain⟨u,rfl,rx⟩:=i7 r;cases rx;have CW:bs.length<=Å:=by rw[Ĕ];lia
 have YJ:∀(Q:List Ì->À->Prop) (E:Ì->À->Prop),(∀h1 tk (r_:List Ý),r_.Perm bs->(∀b o,s.heap.get? b=J o->h1.get? b=J o)->Q (r_.map Value.ref) {s with heap:=h1,toks:=tk})->Á (Ä X.prog X.w) X.A.in1 (collect (.ref p)) Q E s:=by
  intro Q E hq;rcases Vh with hs|hs|⟨ep,es,hs,rfl⟩
  ·obtain⟨aH,rv,pl,_⟩:=I.list hs;obtain⟨o,e,c,n,d⟩:=pl.isList;have e2:=fO rv;subst e2;exact Ŵ p (.inl rfl) e c d (λh1 k1=>by simpa using hq h1 s.toks bs (ľ _) k1) (by rw[å,Ê];exact CW)
  ·obtain⟨aH,rv,pl,_⟩:=I.tuple hs;obtain⟨o,e,c,n,d⟩:=pl;have e2:=fO rv;subst e2;exact Ŵ p (.inr rfl) e c d (λh1 k1=>by simpa using hq h1 s.toks bs (ľ _) k1) (by rw[å,Ê];exact CW)
  ·obtain⟨lo,ds,rd,n,at_⟩:=I.rawD hs;refine rK (A:=X.A.in1) (Xz lo) (I.ok.hd hc) rd (by rw[n];rw[Ê] at CW;exact CW) λh1 tk bX k1 ia=>?_;have e:bX.toList=(es.map (·.2.1)).map Value.ref:=by
    apply Φ;intro i;rw[Α,ñ,ç];by_cases hi:i<bX.size
    ·rw[getElem?_pos bX i hi];obtain⟨en,e1,e2⟩:=ia.2 i _ (getElem?_pos bX i hi);have SM:i<ds.size:=by rw[<-ia.1];exact hi
     rw[getElem?_pos ds i SM] at e1;cases e1;obtain⟨x,m,ek,_⟩:=at_ i SM;rw[m,e2,ek];rfl
    ·rw[getElem?_neg bX i hi,Ÿ (by rw[<-n,<-ia.1];lia)];rfl
   rw[e];exact hq h1 tk _ (ľ _) k1
 exact BF I hz hu tu YJ q
end L2
namespace Hc.Dw
section
open PySem.W PyProof.Rows L2
def my:entryFor table "dict.update.loop"=J Builtin.«dict.update.loop»:=entryFor_of_fast (by kernel_rfl)
def mz:plainId "dict.update.loop"=Z:=by decide+kernel
theorem TK.keep' {k:List U}(x:TK h k b)(kp:∀c aH,h.IsTuple c aH->h'.IsTuple c aH):TK h' k b:=by
 obtain⟨l,aH,t,z⟩:=x;exact⟨l,aH,kp _ _ t,z.keep kp⟩
noncomputable def fU (xs:List (List U×I×d))(aH:List (List U×I×d)):List (List U×I×d):=aH.foldl (λxs e=>storedH xs e.1 e.2.1 e.2.2) xs
theorem BG {xs:List (List U×I×d)}{k:List U}{v:d}:(storedH xs k b v).length<=xs.length+1:=by
 unfold storedH;split
 ·rw[Ê];lia
 ·rw[ã];exact Ñ _
variable {A:Ð}{d l:I}
def Ea (h:É)(v:Ì)(e:List U×I×Ì):Prop:=∃T,v=.ref T/\h.IsTuple T #[.ref e.2.1,e.2.2]/\TK h e.1 e.2.1
theorem Ma {c:I}{aH:Array Ì}{o:Obj}(t:h.IsTuple c aH)(q:h.get? b=J o)(n:o.cls≠.type "tuple"):c≠b:=λe=>by
 subst e;obtain⟨o',q',z,_⟩:=t;lia
def oz {es:List (List U×I×Ì)}(hi:i<es.length):fU [] (es.take (i+1))=storedH (fU [] (es.take i)) es[i].1 es[i].2.1 es[i].2.2:=by
 unfold fU;rw[ŀ hi,ϯ];rfl
end
end Hc.Dw
namespace L2
open Hc.Dw Hc.Ts
noncomputable def rowU (ns:List Int):U:=.tup (ns.map .int)
def Pw:U->Option (List Int)
 | .tup xs=>match fF xs with
  |some (n::ns)=>J (n::ns)
  |_=>L
 |_=>L
def vo:List U->Option (List (List Int))
 | []=>J []
 |u::us=>match Pw u,vo us with
  |some ns,J eW=>J (ns::eW)
  |_,_=>L
def IA (x:List Int):List (List Int)->List (List Int)
 | []=>[x]
 |y::r=>if fN y x=Z then y::IA x r else x::y::r
def oA (l:List (List Int)):List (List Int):=l.foldr IA []
theorem p6 (x:List Int):∀l,(IA x l).Perm (x::l)
 | []=>.refl _
 |y::r=>by
  unfold IA;split
  ·exact ((p6 x r).cons y).trans (.swap x y r)
  rfl
theorem g8:∀l,(oA l).Perm l
 | []=>.refl _
 |x::l=>(p6 x _).trans ((g8 l).cons x)
def XB (l:List (List Int)):Prop:=l.Pairwise λx y=>fN y x=M
theorem Ga (x:List Int):∀{l},XB l->XB (IA x l)
 | [],_=>ķ _ _
 |y::r,h=>by
  obtain⟨h1,h2⟩:=Ė.mp h;unfold IA;split
  ·rename_i c;refine Ė.mpr ⟨λz hz=>?_,Ga x h2⟩;rcases Ø.mp ((p6 x r).mem_iff.mp hz) with rfl|hz
   ·exact KeyOrd.klt_asymm (O:=Pq) c
   ·exact h1 z hz
  ·rename_i c;have c:=by simpa using c
   refine Ė.mpr ⟨λz hz=>?_,h⟩;rcases Ø.mp hz with rfl|hz
   ·exact c
   ·exact ű (O:=Pq) c (h1 z hz)
theorem BH:∀l,XB (oA l)
 | []=>List.Pairwise.nil
 |x::l=>Ga x (BH l)
theorem Gb:∀{l m:List (List Int)},l.Perm m->XB l->XB m->l=m
 | [],m,p,_,_=>(List.nil_perm.mp p).symm
 |x::l,[],p,_,_=>absurd p.length_eq (by simp)
 |x::l,y::m,p,h1,h2=>by
  obtain⟨a1,a2⟩:=Ė.mp h1;obtain⟨b1,b2⟩:=Ė.mp h2;have e:x=y:=by
   have hx:=p.mem_iff.mp Ï;have hy:=p.mem_iff.mpr Ï;rcases Ø.mp hx with rfl|hx
   ·rfl
   ·rcases Ø.mp hy with rfl|hy
    ·rfl
    grind[g7]
  subst e;rw[Gb (p.cons_inv) a2 b2]
theorem Px (h:Pw u=J ns):u=rowU ns/\ns≠[]:=by
 unfold Pw at h;split at h
 ·split at h
  ·rename_i xs n r e;cases h;rw[iF e];exact⟨rfl,by simp⟩
  ·cases h
 ·cases h
theorem oB:∀{us:List U} {eW:List (List Int)},vo us=J eW->us=eW.map rowU/\∀ns∈eW,ns≠[]
 | [],_,h=>by cases h;simp
 |u::us,eW,h=>by
  unfold vo at h;split at h
  ·rename_i ns r e1 e2;cases h;obtain⟨e3,n3⟩:=Px e1;obtain⟨e4,n4⟩:=oB e2;grind
  ·cases h
theorem Ui (h:Rp K H A (rowU ns) v):∃b,v=.ref b/\H b=J (.tup (ns.map V.int))/\ns.length<=Å:=by
 obtain⟨b,ys,e,q,l,r⟩:=h;rw[r.toI] at q;exact⟨b,e,q,by simpa using l⟩
def Uj (q:H b=J (.tup (ns.map V.int)))(l:ns.length<=Å):Rp K H A (rowU ns) (.ref b):=by
 exact⟨b,_,rfl,q,by simpa using l,nY ns⟩
def Ge (q:H b=J (.tup (ns.map V.int))):iC H b=ns:=by unfold iC;rw[q];exact BE ns
theorem kE:∀{eW:List (List Int)} {xs:List V},aP K H A (eW.map rowU) xs->∃bs:List I,xs=bs.map V.ref/\bs.map (iC H)=eW/\∀b∈bs,H b=J (.tup ((iC H b).map V.int))/\(iC H b).length<=Å
 | [],xs,h=>by subst h;simp
 |ns::eW,xs,h=>by
  obtain⟨x,r,rfl,h1,h2⟩:=h;obtain⟨b,rfl,q,l⟩:=Ui h1;obtain⟨bs,rfl,e,z⟩:=kE h2;refine⟨b::bs,rfl,by rw[Ç,e,Ge q],λc hc=>?_⟩;rcases Ø.mp hc with rfl|hc
  ·rw[Ge q];exact⟨q,l⟩
  ·exact z c hc
theorem Mb {bs:List I}(h:∀b∈bs,H b=J (.tup ((iC H b).map V.int))/\(iC H b).length<=Å):aP K H A ((bs.map (iC H)).map rowU) (bs.map V.ref):=by
 induction bs with
 |nil=>exact aP.nil
 |cons b bs ih=>exact aP.cons (Uj (h b Ï).1 (h b Ï).2) (ih λc hc=>h c (Ö _ hc))
def iR (us:List U):R U:=match vo us with
 |some eW=>if eW.length<64 then .ok (.lst ((oA eW).map rowU)) else .stk
 |none=>.stk
def vp:List U->R U:=λus=>match us with
 | [.lst xs]=>iR xs
 | [.tup xs]=>iR xs
 | [.dct ks _]=>if rJ ks=Z then iR ks else .stk
 |_=>.stk
def zx (K:È):List V->Hp->VK->Prop:=λxs H Q=>∃(p:I) (bs:List I),xs=[.ref p]/\Pt K H p bs/\bs.length<64/\(∀b∈bs,∃ns:List Int,H b=J (.tup (ns.map V.int))/\ns≠[])/\
  ∀(l:I) (lV:List I),H l=L->lV.Perm bs->lV.Pairwise (λx y=>fN (iC H y) (iC H x)=M)->Q (.ref l) (bc H l (.lst (lV.map V.ref)))
theorem IB:lY K (zx K) .O vp:=λA H vs us z Q h mu e q=>by
 have fin:∀(xs:List U) (p:I) (bs:List I),iR xs=.ok z->aP K H A xs (bs.map V.ref)->Pt K H p bs->zx K [.ref p] H Q:=by
  intro xs p bs e r Vh;unfold iR at e;split at e
  ·rename_i eW e1;split at e
   ·cases e;obtain⟨e2,ne⟩:=oB e1;subst e2;obtain⟨r_,e3,e4,e5⟩:=kE r;have e6:=by
     exact (List.map_inj_right λ_ _ h=>by cases h;rfl).mp e3
    subst e6;have n1:bs.length=eW.length:=by rw[<-e4,Ê]
    refine⟨p,bs,rfl,Vh,by lia,λb hb=>⟨_,(e5 b hb).1,ne _ (by rw[<-e4];exact ÿ hb)⟩,λl lV hn hp hw=>?_⟩;have e7:=Gb ((hp.map (iC H)).trans (by rw[e4];exact (g8 eW).symm)) (Χ.mpr hw) (BH eW);refine q _ _ (cY hn _) ⟨l,rfl,hn,?_⟩;rw[<-e7];refine dh mu (Mb λb hb=>e5 b (hp.mem_iff.mp hb)) hn ?_;have:Å=16777216:=rfl;rw[Ê,Ê,hp.length_eq];lia
   ·cases e
  ·cases e
 unfold vp at e;split at e
 ·obtain⟨v,rfl,p⟩:=h.one;obtain⟨a,ys,rfl,h1,l1,r1⟩:=p;have e':=e;unfold iR at e';split at e'
  ·rename_i eW e1;have r2:=r1;rw[(oB e1).1] at r2;obtain⟨bs,rfl,_⟩:=kE r2;exact fin _ a bs e r1 (.inl (fG.of h1))
  ·cases e'
 ·obtain⟨v,rfl,p⟩:=h.one;obtain⟨a,ys,rfl,h1,l1,r1⟩:=p;have e':=e;unfold iR at e';split at e'
  ·rename_i eW e1;have r2:=r1;rw[(oB e1).1] at r2;obtain⟨bs,rfl,_⟩:=kE r2;exact fin _ a bs e r1 (.inr (.inl (gR.of h1)))
  ·cases e'
 ·rename_i ks ws;split at e
  ·rename_i c;obtain⟨v,rfl,p⟩:=h.one;obtain⟨a,ys,rfl,h1,l1,r1⟩:=p;obtain⟨es,ep,q1,kt,e1,e2⟩:=zp c h1;refine fin ks a _ e ?_ (.inr (.inr ⟨ep,es,q1,rfl⟩));subst e1;clear e fin e2 r1 h1 c q1 h
   induction es with
   |nil=>exact aP.nil
   |cons x es ih=>exact aP.cons (RY (kt x Ï)) (ih λy hy=>kt y (Ö _ hy))
  ·cases e
 ·cases e
def Mc (K:È):List V->Hp->VK->Prop:=λxs H Q=>∃(p:I) (ns:List Int),xs=[.ref p]/\(fG K H p (ns.map V.int)\/gR K H p (ns.map V.int))/\ns.length<64/\
  ∀(l:I) (md:List Int),H l=L->md.Perm ns->md.Pairwise (·<=·)->Q (.ref l) (bc H l (.lst (md.map V.int)))
def oC:List U->R U:=λus=>match DK us with
 | .ok z=>.ok z
 |_=>vp us
theorem BI:lY K (λxs H Q=>Mc K xs H Q\/zx K xs H Q) .O oC:=λA H vs us z Q h mu e q=>by
 unfold oC at e;split at e
 ·rename_i z' e1;cases e;exact .inl (Ie A H vs us _ Q h mu e1 q)
 ·exact .inr (IB A H vs us z Q h mu e q)
theorem yt (hc:X.calm=Z)(hu:X.A.units+64<Ò):eS X (.builtin "sorted") (λxs H Q=>Mc X.K xs H Q\/zx X.K xs H Q):=by
 intro pins s Y H xs us Q I r h;rcases h with h|h
 ·exact y8 pins s Y H xs us Q I r h
 ·exact zv hc hu pins s Y H xs us Q I r h
end L2
namespace L2
open Hc.Dw Hc.Ts
section
variable {pos:Pos}
def R4:R2:=λx y H Q=>∃(p:I) (xs:List V) (n:Int),x=.ref p/\y=.int n/\H p=J (.lst xs)/\0<=n/\n<=100000/\xs≠[]/\xs.length*n.toNat<=100000/\∀l,H l=L->Q (.ref l) (bc H l (.lst (ù n.toNat xs).flatten))
theorem Gf:kh X (ě .Mult) R4:=by
 intro pins s Y H x y v u Q I rx ry h;obtain⟨p,xs,n,rfl,rfl,hp,h0,h1,wV,hs,q⟩:=h;obtain rfl:v=Value.ref p:=rx;obtain⟨tk,rfl⟩:∃t,u=.int n t:=ry;obtain⟨_,aH,n0,rv,hl,ho⟩:=I.lstM hp;have he:aH.toArray.isEmpty=M:=by grind
 have sl:Å=16777216:=rfl;refine wpAny_binaryOp_repeat_ref (by decide) ⟨_,ho,rfl⟩ (λs'=>typeIs_int s' n tk) noFill_list_mul PySem.F.fills_int_mul PySem.F.slot_int_rmul repeat_list PySem.F.slot_int_index.lookup
  (ŗ PySem.F.slot_int_rmul (typeIs_int s n tk) PySem.F.entry_int_rmul (PySem.F.args_int_rmul_2 _ _) (int___rmul___int_list n tk p _ n0)
   ⟨ho,rfl,⟨_,ho,rfl⟩,ŗ PySem.F.slot_list_mul ⟨_,ho,rfl⟩ PySem.F.entry_list_mul (PySem.F.args_list_mul_2 _ _)
    (AutoListH.list___mul___list_int_3 p _ n0 n tk ?c0 ?c1 ?c2) ⟨ho,?_⟩⟩)
 case c0=>unfold Builtin.List.listFitsIndex;simp;lia
 case c1=>rw[å,<-hl];lia
 case c2=>rw[å,<-hl,tZ (by rw[sl];lia)];exact í
 rw[he,listMul_foldl];have el:(#[]:Array d).toList=[]:=rfl;have z2:(ù n.toNat xs).flatten.length<=Å:=by rw[FO,sl];lia
 exact⟨.ref _,_,I.laid (o:=.lst _) (λ_ _ e=>Ó _ e) (Ñ _) ⟨z2,_,0,Bo rv n.toNat,by
  have:=Ü s.heap (o:={cls:=Value.type "list",data:=Data.seq (ù n.toNat aH.toArray.toList).flatten.toArray}) rfl;simpa using this⟩,rfl,q _ (I.hok.fresh (Ñ _))⟩
noncomputable def rL:U->U->R U:=λu w=>match u,w with
 | .lst us,.int n=>if 0<=n/\n<=100000/\us.length*n.toNat<=100000/\us.isEmpty=M then .ok (.lst (ù n.toNat us).flatten) else .stk
 |_,_=>.stk
theorem BJ:fK K R4 .O rL:=λA H x y u w z Q hx hy mu e q=>by
 unfold rL at e;split at e
 ·rename_i us n;split at e
  ·rename_i c;cases e;obtain⟨a,xs,rfl,h1,l1,r1⟩:=hx;subst hy;have hl:=r1.length;refine⟨a,xs,n,rfl,rfl,h1,c.1,c.2.1,λz=>?_,by rw[<-hl];exact c.2.2.1,λl hn=>?_⟩
   ·grind
   ·refine q _ _ (cY hn _) ⟨l,rfl,hn,dh mu (FP r1 _) hn ?_⟩;rw[FO];have:Å=16777216:=rfl;lia
  ·cases e
 ·cases e
end
def VW (l a:I)(h:É):Prop:=h.IsValuesView l a
section
variable {e:Æ}{tl:TE}{cO bW pos p1:Pos}{b1:Bool}{m1:Md}{g1:Ev->R (U×Ev)}
def XC (tl:TE):TE:=λY H Q=>tl Y H λx H1=>∃a ep es,x=.ref a/\H1 a=J (DN a ep es)/\∀l,H1 l=L->Q (.ref l) (bc H1 l (.ext (VW l a)))
theorem IC (hl:PE X e tl)(m:M0 X e "values" cO bW):PE X (.Call (.Attribute e "values" cO) [] [] bW) (XC tl):=by
 intro pins s Y H Q I h;refine ϐ m.base m.few m.line Ϥ afy PySem.F.type_dict_values (c7 (hl pins s Y H _ I h) λv s1 ⟨x,H1,I1,r1,a,ep,es,ex,hq,q⟩=>?_);subst ex;cases r1;obtain⟨t1,t2⟩:=LU I1 hq;refine⟨t1,t2,?_⟩;obtain⟨lo,ds,rd,n,_⟩:=I1.rawD hq;refine Γ rfl (afl ?_);refine û afy t1 PySem.F.entry_dict_values (Xo lo rd λh1 vw k1=>?_) (PySem.F.args_dict_values_1 _);exact⟨.ref _,_,I1.laid (o:=.ext _) k1 (Ñ _) ⟨vw,by obtain⟨o,z,_⟩:=vw;exact⟨o,z⟩,λg1 g2 x kp=>by obtain⟨o,z,r⟩:=x;exact⟨o,kp _ z,r⟩⟩,rfl,q _ (I1.hok.fresh (Ñ _))⟩
noncomputable def iS (ns:List Int):Bool:=decide (ns.length<=1000000)&&ns.all λn=>decide (0<=n/\n<=1000000000)
theorem gc (ns:List Int):∀j,j<=ns.length->preSum (λi=>ns.getD i 0) j=(ns.take j).sum
 |0,_=>rfl
 |j+1,h=>by
  unfold preSum;rw[gc ns j (by lia),ŀ (by lia),List.sum_append];grind
theorem p7:∀{ns:List Int},(ns.all λn=>decide (0<=n/\n<=1000000000))=Z->0<=ns.sum/\ns.sum<=ns.length*1000000000
 | [],_=>by simp
 |n::ns,h=>by
  rw[ĺ,ß] at h;obtain⟨a,b⟩:=p7 h.2;grind
def XD:List V->Hp->VK->Prop:=λxs H Q=>∃l a ep es ns,xs=[.ref l]/\H l=J (.ext (VW l a))/\H a=J (DN a ep es)/\es.map (·.2.2)=ns.map V.int/\iS ns=Z/\Q (.int ns.sum) H
theorem ID (hc:X.calm=Z):eS X (.builtin "sum") XD:=by
 intro pins s Y H xs us Q I r h;obtain⟨l,a,ep,es,ns,rfl,hl,ha,ev,sm,q⟩:=h;obtain⟨u,rfl,rx⟩:=i7 r;cases rx;obtain⟨vw,_,_⟩:=I.hok l _ hl;obtain⟨lo,ds,rd,n,at_⟩:=I.rawD ha;unfold iS at sm;rw[ß] at sm;have s1:=of_decide_eq_true sm.1;have nn:=by have:=congrArg γ ev;simpa using this
 have lt:=rd.lt;refine call_sum_walk (Xp vw rd ⟨s.heap.objs.size,[s.heap.objs.size,a],[s.heap.objs.size],ds.size,_,_,λi=>ns.getD i 0,rfl,Uh (I.ok.hd hc) (Þ lt),⟨⟨_,Ü _ rfl,rfl,rfl⟩,rd.at λo z=>Ó _ z⟩,?_,?_,?_,λh' tk t' k=>?_⟩)
 ·intro b hb;rw[Ī];grind
 ·rintro i v ⟨e,e1,rfl⟩;have hi:i<ds.size:=by
   grind
  rw[getElem?_pos ds i hi] at e1;cases e1;obtain⟨x,m,_,rv⟩:=at_ i hi;have e2:(es.map (·.2.2))[i]? = J x.2.2:=by rw[ç,m];rfl
  rw[ev,ç] at e2;have VQ:i<ns.length:=by lia
  rw[á VQ] at e2;injection e2 with e2
  rw[<-e2] at rv;obtain⟨t,et⟩:=rv;exact⟨t,by rw[et];simp[á VQ]⟩
 ·intro j hj;have Zj:j<ns.length:=by lia
  have al:=sm.2;refine⟨?_,?_⟩
  ·have:=ì.mp al ns[j] (ĩ Zj);have:=of_decide_eq_true this;unfold InLong;simp only[List.getD,á Zj,Option.getD_some];lia
  ·rw[gc ns (j+1) (by lia)];have VR:((ns.take (j+1)).all _)=Z:=ì.mpr λx hx=>ì.mp al x (List.mem_of_mem_take hx);obtain⟨p1,p2⟩:=p7 VR;grind[ŝ,InLong]
 ·have e:preSum (λi=>ns.getD i 0) ds.size=ns.sum:=by grind[gc,Ĺ]
  rw[e];refine⟨.int ns.sum,H,I.kept λb o z=>?_,⟨t',rfl⟩,q⟩;refine k b o (λhb=>?_) (Ó _ z);have:=by simpa using hb
  exact absurd (Ô z) (by rw[this];exact ĳ _)
def BK (g:Ev->R (U×Ev)):Ev->R (U×Ev):=λB=>(g B).bind λx=>match x.1 with
 | .dct ks us=>if rJ ks=Z then (match fF us with
  |some ns=>if iS ns=Z then .ok (.int ns.sum,x.2) else .stk
  |none=>.stk) else .stk
 |_=>.stk
theorem Gg (hc:X.calm=Z)(h:DE X G e b1 m1 g1)(hm:X.mg "sum"=L)(hg:Gl X "sum":=by rfl)(m:M0 X e "values" cO bW:=by exact⟨rfl,rfl,rfl,rfl⟩)
  (Zk:Î [.Call (.Attribute e "values" cO) [] [] bW] X.env=(M,Í (.Call (.Attribute e "values" cO) [] [] bW) X.env)::Î [] X.env:=by rfl) (Vm:(ä pos (Î [] X.env)).any (·.1)=M:=by rfl) :
  DE X G (.Call (.Name "sum" p1) [.Call (.Attribute e "values" cO) [] [] bW] [] pos) b1 .S (BK g1):=⟨(AZ (ID hc) hg hm Ko (gD (IC h.un m) mF Zk) (by decide) (by decide) Zk Vm).to λY H Q h00=>by
 obtain⟨ZQ,A,B,q,f⟩:=h00;refine⟨ZQ,A,B,q,?_⟩;unfold BK at f;cases e1:g1 B with
 |stk=>rw[e1] at f;exact f.elim
 |exc=>rw[e1] at f;exact f.elim
 |ok y=>
  obtain⟨u,B1⟩:=y;rw[e1] at f;intro v H1 q1 x1 s1 vm;cases u with
  |dct ks us=>
   dsimp only[L2.R.bind] at f;by_cases c:rJ ks=Z
   ·rw[h_ c] at f;cases e2:fF us with
    |none=>rw[e2] at f;exact f.elim
    |some ns=>
     rw[e2] at f;dsimp only at f;by_cases c2:iS ns=Z
     ·rw[h_ c2] at f;have pk:=vm.pk;obtain⟨a,xs,rfl,d,l,r⟩:=pk;obtain⟨es,ep,hq,kt,e3,e4⟩:=zp c d;rw[iF e2] at r;have r2:=r.toI;rw[e4] at r2;refine⟨a,ep,es,rfl,hq,λl hn=>?_⟩;have ne:a≠l:=λz=>by lia
      have sm:=cY hn (.ext (VW l a));exact⟨l,a,ep,es,ns,rfl,aI,by rw[aG ne];exact hq,r2,c2,f _ _ (q1.same sm) (x1.trans (dP.same sm)) (sr s1 sm) (show Rp X.K _ A _ _ from df)⟩
     ·rw[hZ c2] at f;exact f.elim
   ·rw[hZ c] at f;exact f.elim
  |_=>exact f.elim⟩
end
end L2
namespace L2
open Hc.Dw Hc.Ts
noncomputable def IE:d->Int×Tok
 | .int n t=>(n,t)
 |_=>(0,0)
theorem IF (h:ü aH ns):intItems (aH.map IE).toArray=aH.toArray/\∀i,numAt (aH.map IE).toArray i=ns.getD i 0:=by
 constructor
 ·unfold intItems;rw[List.map_toArray,ñ];congr 1
  induction h with
  |nil=>rfl
  |cons n t _ ih=>rw[Ç,ih];rfl
 ·induction h with
  |nil=>unfold numAt;simp
  |cons n t _ ih=>
   intro i;cases i with
   |zero=>rfl
   |succ i=>
    simp_all[numAt,List.getD]
def R5 (K:È):List V->Hp->VK->Prop:=λxs H Q=>∃p ns,xs=[.ref p]/\fG K H p (ns.map V.int)/\iS ns=Z/\Q (.int ns.sum) H
theorem IG (hc:X.calm=Z):eS X (.builtin "sum") (R5 X.K):=by
 intro pins s Y H xs us Q I r h;obtain⟨p,ns,rfl,hs,sm,q⟩:=h;obtain⟨u,rfl,rx⟩:=i7 r;cases rx;obtain⟨aH,rv,pl,_⟩:=I.list hs;have hI:=fH rv;obtain⟨t1,t2⟩:=IF hI;have sz:(aH.map IE).toArray.size=ns.length:=by simp[hI.length]
 unfold iS at sm;rw[ß] at sm;have s1:=of_decide_eq_true sm.1;have fe:=funext t2;refine sum_intList (I.ok.hd hc) (by rw[t1];exact pl.isList) (λj hj=>?_) λh' tk t' k=>?_
 ·rw[sz] at hj;have al:=sm.2;rw[fe];refine⟨?_,?_⟩
  ·have:=ì.mp al ns[j] (ĩ hj);have:=of_decide_eq_true this;unfold InLong;simp only[List.getD,á hj,Option.getD_some];lia
  ·rw[gc ns (j+1) (by lia)];have VR:((ns.take (j+1)).all _)=Z:=ì.mpr λx hx=>ì.mp al x (List.mem_of_mem_take hx);obtain⟨p1,p2⟩:=p7 VR;grind[ŝ,InLong]
 ·have e:preSum (numAt (aH.map IE).toArray) (aH.map IE).toArray.size=ns.sum:=by rw[fe,sz,gc ns ns.length (Ñ _),Ĺ]
  rw[e];exact⟨.int ns.sum,H,I.kept k,⟨t',rfl⟩,q⟩
def Me:List U->R U:=λus=>match us with
 | [.lst xs]=>match fF xs with
  |some ns=>if iS ns=Z then .ok (.int ns.sum) else .stk
  |none=>.stk
 |_=>.stk
theorem Mf:lY K (R5 K) .S Me:=λA H vs us z Q h mu e q=>by
 unfold Me at e;split at e
 ·split at e
  ·rename_i ns hb;split at e
   ·rename_i hl;cases e;obtain⟨v,rfl,p⟩:=h.one;obtain⟨a,ys,rfl,h1,l1,r1⟩:=p;rw[iF hb] at r1;rw[r1.toI] at h1;exact⟨a,ns,rfl,fG.of h1,hl,q _ H (aN.refl _) (show Rp K H A _ _ from df)⟩
   ·cases e
  ·cases e
 ·cases e
noncomputable def zy:Int->List Int->Int
 |m,[]=>m
 |m,n::ns=>zy (if m<n then n else m) ns
theorem BM (ns:List Int)(n0:Int):∀j,j<=ns.length->(n0::ns).getD (argBest (λi j=>decide ((n0::ns).getD i 0>(n0::ns).getD j 0)) j) 0=zy n0 (ns.take j)
 |0,_=>by rfl
 |j+1,h=>by
  have ih:=BM ns n0 j (by lia);have hj:j<ns.length:=by lia
  have app:∀(l:List Int) (m x:Int),zy m (l++[x])=if zy m l<x then x else zy m l:=by
   intro l
   induction l with
   |nil=>intro m x;rfl
   |cons y l ih=>intro m x;exact ih _ x
  rw[ŀ hj,app,<-ih];have g:(n0::ns).getD (j+1) 0=ns[j]:=by simp[á hj]
  rw[argBest];lia
end L2
namespace Hc.Ts
open PySem.W
theorem BN:∀a b,HT.lexLt a b=fN a b
 | [],[]=>rfl
 | [],_::_=>rfl
 |_::_,[]=>rfl
 |x::xs,y::ys=>by
  rw[HT.lexLt_cons,fN,BN xs ys]
section
variable {A:Ð}
theorem items_int {vs:List d}(h:ü vs ns):ItemsAre (intKind prog w) ns vs:=by
 induction h with
 |nil=>exact .nil
 |cons n t _ ih=>exact .cons (intKind_is _ _ _ _) ih
theorem XF {t:I}{aH:Array Ì}(h:s.heap.IsTuple t aH)(i:ü aH.toList ns):IsTupleKey (intKind prog w) s.heap ns t:=by
 obtain⟨o,e,c,n,d⟩:=h;exact⟨o,aH,n,e,c,d,items_int i⟩
def Gh {Q:Bool->À->Prop}(q:Q Z s):Á (Ä prog w) A (eqBool (.ref b) (.ref b)) Q E s:=by
 unfold eqBool;refine õ ?_;rw[h_ (by simp)];exact t (İ (Â q))
end
end Hc.Ts
namespace L2
open Hc.Dw Hc.Ts
theorem yu {α β:Type}{f:α->β}:∀{l:List α},(l.map f).Nodup->∀a∈l,∀b∈l,f a=f b->a=b
 | [],_,a,ha,_,_,_=>by cases ha
 |x::l,h,a,ha,b,hb,e=>by
  obtain⟨h1,h2⟩:=ø.mp h;rcases Ø.mp ha with ea|CN
  ·grind
  ·rcases Ø.mp hb with eb|tW
   ·grind
   ·exact yu h2 a CN b tW e
def zz (p:List Int×U):U:=.tup [rowU p.1,p.2]
end L2
namespace L2
def XG (K:È)(f:Bool->Bool):R2:=λx y H Q=>∃p xs ds dx,y=.ref p/\(fG K H p xs\/gR K H p xs)/\iO K H dx x/\f7 K H ds xs/\(∀d∈ds,fI d<=30)/\Q (.bl (f (ds.any λd=>lu d dx))) H
open Classical in
def IH (aH:List Ì)(ds:List D)(dx:D)(u:Ì):Bool:=decide (∃(i:Nat) (d:D),aH[i]? = J u/\ds[i]? = J d/\lu d dx=Z)
open Classical in
def tJ {ds:List D}{dx:D}{u:Ì}:IH aH ds dx u=Z↔∃(i:Nat) (d:D),aH[i]? = J u/\ds[i]? = J d/\lu d dx=Z:=by
 unfold IH;lia
theorem Gi {ds:List D}{dx:D}(hl:aH.length=ds.length):aH.any (IH aH ds dx)=ds.any λd=>lu d dx:=by
 rw[ļ,Ω,Ω];constructor
 ·rintro⟨u,_,h⟩;obtain⟨i,d,_,h2,h3⟩:=tJ.mp h;exact⟨d,Ċ h2,h3⟩
 ·rintro⟨d,hd,h⟩;obtain⟨i,hi,e⟩:=List.mem_iff_getElem.mp hd;have VQ:i<aH.length:=by lia
  exact⟨aH[i],ĩ VQ,tJ.mpr ⟨i,d,á VQ,by rw[á hi,e],h⟩⟩
theorem BO (I:aO X pins Y H s){A:Ð}(hA:A.units+30<Ò){x:V}{v:Ì}{dx:D}(rx:aX x v)(hx:iO X.K H dx x){ds:List D}(rv:aZ xs aH)(hs:f7 X.K H ds xs)(hd:∀d∈ds,fI d<=30) :
  ∀u∈aH,Ĭ A s u v (IH aH ds dx u):=λu hu=>by
 have l1:=rv.length;have l2:=hs.length;have at_:∀(i:Nat) (d:D),aH[i]? = J u->ds[i]? = J d->Ĭ A s u v _:=λi d h1 h2=>by
  have hi:=(é.mp h1).1;have h3:xs[i]? = J (xs[i]'(by lia)):=á _;obtain⟨u',g1,g2⟩:=rv.get h3;rw[h1] at g1;cases g1;exact Dl I 30 d dx _ x u v A (hd d (Ċ h2)) hA (hs.get h2 h3) hx g2 rx
 by_cases c:∃(i:Nat) (d:D),aH[i]? = J u/\ds[i]? = J d/\lu d dx=Z
 ·obtain⟨i,d,h1,h2,h3⟩:=c;have e:=tJ.mpr ⟨i,d,h1,h2,h3⟩;rw[e,<-h3];exact at_ i d h1 h2
 ·have e:=ϲ.mpr λz=>c (tJ.mp z);obtain⟨i,hi,eu⟩:=List.mem_iff_getElem.mp hu;have h1:aH[i]? = J u:=by rw[á hi,eu]
  have h2:ds[i]? = J (ds[i]'(by lia)):=á _;grind
theorem II (hu:X.A.units+64<Ò):kh X (ă .NotIn) (XG X.K not):=by
 intro pins s Y H x y v u Q I rx ry h;obtain⟨p,xs,ds,dx,rfl,hq,hx,hs,hd,q⟩:=h;cases ry;rcases hq with hq|hq
 ·obtain⟨aH,r,pl,hz⟩:=I.list hq;refine SeqAt.notIn_listAt _ pl.isList (λw hw=>BO I (by lia) rx hx r hs hd w (by simpa using hw)) ⟨.bl _,H,I,rfl,?_⟩;rw[show aH.toArray.any _=aH.any (IH aH ds dx) by simp,Gi (by rw[<-r.length,<-hs.length])];exact q
 ·obtain⟨aH,r,pl,hz⟩:=I.tuple hq;refine SeqAt.notIn_tupleAt _ pl (λw hw=>BO I (by lia) rx hx r hs hd w (by simpa using hw)) ⟨.bl _,H,I,rfl,?_⟩;rw[show aH.toArray.any _=aH.any (IH aH ds dx) by simp,Gi (by rw[<-r.length,<-hs.length])];exact q
noncomputable def Uk:U->Option (List U)
 | .lst us=>J us
 | .tup us=>J us
 |_=>L
def Z9 (f:Bool->Bool):U->U->R U:=λu w=>match tq u,(Uk w).bind mK with
 |some dx,J ds=>if (ds.all λd=>decide (fI d<=30))=Z then .ok (.bl (f (ds.any λd=>lu d dx))) else .stk
 |_,_=>.stk
theorem Ul {f:Bool->Bool}:fK K (XG K f) .S (Z9 f):=λA H x y u w z Q hx hy mu e q=>by
 unfold Z9 at e;split at e
 ·rename_i dx ds h1 h2;split at e
  ·rename_i hd;cases e;cases w with
   |lst us=>
    obtain⟨a,xs,rfl,h3,l1,r1⟩:=hy;exact⟨a,xs,ds,dx,rfl,.inl (fG.of h3),zf hx h1,lC r1 h2,λd m=>of_decide_eq_true (ì.mp hd d m),q _ H (aN.refl _) (show Rp K H A _ _ from gx)⟩
   |tup us=>
    obtain⟨a,xs,rfl,h3,l1,r1⟩:=hy;exact⟨a,xs,ds,dx,rfl,.inr (gR.of h3),zf hx h1,lC r1 h2,λd m=>of_decide_eq_true (ì.mp hd d m),q _ H (aN.refl _) (show Rp K H A _ _ from gx)⟩
   |_=>cases h2
  ·cases e
 ·cases e
end L2
namespace L2
open Hc.Dw Hc.Ts
def Mg (ls ws:List U)(p:U×U):Bool:=match bR ls ws p.1 with
 |some w=>decide (w=p.2)
 |none=>M
def Mh (ks us ls ws:List U):Bool:=ks.length==ls.length&&(ks.zip us).all (Mg ls ws)
end L2
namespace L2
open Hc.Dw Hc.Ts
def gm (es fs:List (List U×I×V)):List (List U×I×V):=fs.foldl (λes e=>eY es e.1 e.2.1 e.2.2) es
theorem yv:∀{fs:List (List U×I×V)} {ys:List (List U×I×d)} {es:List (List U×I×V)} {xs:List (List U×I×d)},è HN fs ys->è HN es xs->è HN (gm es fs) (fU xs ys)
 |_,_,es,xs,.nil,p=>p
 |f::fs,y::ys,es,xs,.cons r t,p=>by
  unfold gm fU;rw[ź,ź];have:=um f.1 (b:=f.2.1) r.2.2 p;have e1:=r.1;have e2:=r.2.1;rw[show storedH xs f.1 f.2.1 y.2.2=storedH xs y.1 y.2.1 y.2.2 by rw[e1,e2]] at this;exact yv t this
def Mi (H:Hp)(z:V)(e:List U×I×V):Prop:=∃T,z=.ref T/\H T=J (.tup [.ref e.2.1,e.2.2])/\tf H e.1 e.2.1
theorem BP {pins:List (Ý×Obj)}{Y:St}{H:Hp}{s:À}(I:aO X pins Y H s):∀{zs:List V} {es:List (List U×Ý×V)} {aH:List d},è (Mi H) zs es->aZ zs aH->∃xs,è HN es xs/\aH.length=xs.length/\∀(i:Nat) v,aH[i]? = J v->∃e,xs[i]? = J e/\Ea s.heap v e
 |_,_,_,.nil,.nil=>⟨[],.nil,rfl,λi v h=>by simp at h⟩
 |z::zs,e::es,v::aH,.cons r t,.cons rv tv=>by
  obtain⟨xs,p,n,at_⟩:=BP I t tv;obtain⟨T,rfl,hT,kt⟩:=r;cases rv;obtain⟨_,ts,rt,it,_⟩:=I.hok T _ hT;cases rt with
  |cons r1 rr=>
   cases rr with
   | @cons _ w _ _ r2 rr2=>
    cases rr2;cases r1;refine⟨(e.1,e.2.1,w)::xs,.cons ⟨rfl,rfl,r2⟩ p,by rw[Ù,Ù,n],λi v h=>?_⟩;cases i with
    |zero=>
     simp at h;subst h;exact⟨(e.1,e.2.1,w),by simp,T,rfl,it,kt.tk I.hok⟩
    |succ i=>
     obtain⟨e',h1,h2⟩:=at_ i v (by simpa using h);exact⟨e',by simpa using h1,h2⟩
def Eb:List U->List U->List U->Option (List U×List U)
 |ks,us,[]=>J (ks,us)
 |ks,us,.tup [k,v]::ps=>if fE k=Z then Eb (cq ks k) (bS ks us k v) ps else L
 |_,_,_=>L
theorem Mj {H:Hp}{A:I->Prop}:∀{ps:List U} {ks us ks' Om:List U} {zs:List V} {fs:List (List U×I×V)},Eb ks us ps=J (ks',Om)->aP K H A ps zs->ks=fs.map (λp=>.tup p.1)->aP K H A us (fs.map (·.2.2))->(fs.map (·.1)).Nodup->(∀e∈fs,tf H e.1 e.2.1)->
  ∃es,è (Mi H) zs es/\ks'=(gm fs es).map (λp=>.tup p.1)/\aP K H A Om ((gm fs es).map (·.2.2))/\((gm fs es).map (·.1)).Nodup/\(∀e∈gm fs es,tf H e.1 e.2.1)/\es.length=ps.length/\(gm fs es).length<=fs.length+es.length
 | [],ks,us,ks',Om,zs,fs,h,r,ek,ru,nd,kt=>by
  cases h;subst r;exact⟨[],.nil,ek,ru,nd,kt,rfl,Ñ _⟩
 |p::ps,ks,us,ks',Om,zs,fs,h,r,ek,ru,nd,kt=>by
  unfold Eb at h;split at h
  ·lia
  ·rename_i k v ps' hps;cases hps;split at h
   ·rename_i c;obtain⟨z,zr,rfl,r1,r2⟩:=r;obtain⟨T,ys,rfl,hT,iw,rr⟩:=r1;obtain⟨x1,xr,rfl,k1,rr⟩:=rr;obtain⟨x2,xr2,rfl,v1,rr⟩:=rr;subst rr;cases k<;>first|(cases c)|skip
    rename_i kk;obtain⟨b,rfl,ktb⟩:=mx c k1;have YK:=p0 (k:=kk) (b:=b) fs x2;rw[<-ek] at YK;have wU:=p5 (k:=kk) (b:=b) v1 ru;rw[<-ek] at wU;obtain⟨es,a1,a2,a3,a4,a5,a6,a7⟩:=Mj h r2 YK.symm wU (zh nd) (uJ kt ktb);have pl:(eY fs kk b x2).length<=fs.length+1:=by
     unfold eY;split
     ·rw[Ê];lia
     ·rw[ã];exact Ñ _
    refine⟨(kk,b,x2)::es,.cons ⟨T,rfl,hT,ktb⟩ a1,a2,a3,a4,a5,by rw[Ù,Ù,a6],?_⟩;grind[gm,eY,Ù]
   ·cases h
  ·cases h
theorem yw:∀{es fs:List (List U×I×V)},(es≠[]\/fs≠[])->gm es fs≠[]
 |es,[],h=>by rcases h with h|h;exact h;lia
 |es,f::fs,_=>yw (fs:=fs) (.inl zi)
end L2
namespace L2
open Hc.Dw Hc.Ts
noncomputable def Um:U->U->R Bool
 | .int a,.int b=>.ok (a==b)
 | .bl a,.bl b=>.ok (a==b)
 | .str a,.str b=>.ok (a==b)
 |_,_=>.stk
def je (f:Bool->Bool):U->U->R U:=λu w=>(Um u w).bind λb=>.ok (.bl (f b))
theorem dq:fK K rEq .S (je id):=λA H x y u w z Q hx hy mu e q=>by
 obtain⟨b,e1,e2⟩:=R.bind_ok e;unfold Um at e1;split at e1
 ·cases e1;cases e2;rw[hx.int,hy.int];refine⟨rfl,?_⟩;rw[s9];exact q _ H (aN.refl _) (show Rp K H A _ _ from gx)
 ·cases e1;cases e2;rw[hx.bl,hy.bl];refine⟨rfl,?_⟩;rw[yV];exact q _ H (aN.refl _) (show Rp K H A _ _ from gx)
 ·cases e1;cases e2;rw[hx.str,hy.str];refine⟨rfl,?_⟩;rw[s_];exact q _ H (aN.refl _) (show Rp K H A _ _ from gx)
 ·cases e1
theorem Gj:fK K rNe .S (je not):=λA H x y u w z Q hx hy mu e q=>by
 obtain⟨b,e1,e2⟩:=R.bind_ok e;unfold Um at e1;split at e1
 ·cases e1;cases e2;rw[hx.int,hy.int];refine⟨rfl,?_⟩;rw[s9];exact q _ H (aN.refl _) (show Rp K H A _ _ from gx)
 ·cases e1;cases e2;rw[hx.bl,hy.bl];refine⟨rfl,?_⟩;rw[yV];exact q _ H (aN.refl _) (show Rp K H A _ _ from gx)
 ·cases e1;cases e2;rw[hx.str,hy.str];refine⟨rfl,?_⟩;rw[s_];exact q _ H (aN.refl _) (show Rp K H A _ _ from gx)
 ·cases e1
end L2
namespace L2
def gq (P:U->V->List I->Prop):List U->List V->List I->Prop
 | [],vs,Lk=>vs=[]/\Lk=[]
 |u::us,vs,Lk=>∃v r L1 L2,vs=v::r/\Lk=L1++L2/\P u v L1/\gq P us r L2
def Dp (K:È)(H:Hp)(A:I->Prop):Nat->U->V->List I->Prop
 |0,u,v,Lk=>∃a us xs,v=.ref a/\u=.lst us/\Lk=[a]/\H a=J (.lst xs)/\us.length<=Å/\aP K H A us xs
 |1,u,v,Lk=>Lk=[]/\Rp K H A u v
 |n+2,u,v,Lk=>∃a us es Mqq,v=.ref a/\u=.dct (es.map λp=>.tup p.1) us/\Lk=a::Mqq/\dR H a es/\(es=[]->H a=J (.dK []))/\us.length<=Å/\gq (Dp K H A n) us (es.map (·.2.2)) Mqq
section
variable {A':I->Prop}
theorem gq.imp {P P':U->V->List I->Prop}:∀{us:List U} {vs:List V} {Lk:List I},(∀u v L',(∀b∈L',b∈Lk)->P u v L'->P' u v L')->gq P us vs Lk->gq P' us vs Lk
 | [],_,_,_,h=>h
 |u::us,vs,Lk,f,h=>by
  obtain⟨v,r,L1,L2,e1,e2,p,q⟩:=h;subst e2;exact⟨v,r,L1,L2,e1,rfl,f u v L1 (λb hb=>Ł _ hb) p,gq.imp (λu v L' s=>f u v L' λb hb=>ĉ _ (s b hb)) q⟩
theorem gq.length {P:U->V->List I->Prop}:∀{us:List U} {vs:List V} {Lk:List I},gq P us vs Lk->us.length=vs.length
 | [],_,_,⟨e,_⟩=>by subst e;rfl
 |u::us,_,_,⟨v,r,_,_,e,_,_,q⟩=>by subst e;rw[Ù,Ù,q.length]
theorem gq.mem {P:U->V->List I->Prop}:∀{us:List U} {vs:List V} {Lk:List I} {b:I},gq P us vs Lk->b∈Lk->∃u v L',P u v L'/\b∈L'
 | [],_,_,b,⟨_,e⟩,h=>by subst e;cases h
 |u::us,_,_,b,⟨v,r,L1,L2,_,e,p,q⟩,h=>by
  subst e;rcases ı.mp h with h|h
  ·exact⟨u,v,L1,p,h⟩
  ·exact q.mem h
theorem dR.mu (g:dR H a es):Mu (H a):=by
 rcases g.ob with⟨ep,q⟩|⟨_,q⟩<;>(rw[q];trivial)
theorem Dp.mu:∀{n:Nat} {u:U} {v:V} {Lk:List I} {b:I},Dp K H A n u v Lk->b∈Lk->Mu (H b)
 |0,u,v,Lk,b,h,hb=>by
  obtain⟨a,us,xs,_,_,e,q,_⟩:=h;subst e;rw[Ą] at hb;subst hb;rw[q];trivial
 |1,u,v,Lk,b,h,hb=>by
  rw[h.1] at hb;cases hb
 |n+2,u,v,Lk,b,h,hb=>by
  obtain⟨a,us,es,Mqq,_,_,e,g,_,_,al⟩:=h;subst e;rcases Ø.mp hb with rfl|hb
  ·exact g.mu
  ·obtain⟨u',v',L',p,hb⟩:=al.mem hb;exact Dp.mu p hb
def dR.re (g:dR H a es)(ka:H' a=H a)(t:∀b ys,H b=J (.tup ys)->H' b=J (.tup ys)):dR H' a es:=⟨by rw[ka];exact g.ob,g.nd,λe he=>(g.key e he).to t⟩
structure CS (A A':I->Prop)(H H':Hp):Prop where
 mu:∀b,A b->Mu (H b)
 ex:dP A H H'
 nw:∀b,A' b->A b\/H b=L
def CS.tup (g:CS A A' H H'):∀b ys,H b=J (.tup ys)->H' b=J (.tup ys):=λb ys q=>g.ex b _ (λz=>by have:=g.mu b z;rw[q] at this;exact this) q
theorem Dp.re (g:CS A A' H H'):∀{n:Nat} {u:U} {v:V} {Lk:List I},(∀b∈Lk,H' b=H b)->Dp K H A n u v Lk->Dp K H' A' n u v Lk
 |0,u,v,Lk,k,h=>by
  obtain⟨a,us,xs,e1,e2,e,q,l,r⟩:=h;subst e;exact⟨a,us,xs,e1,e2,rfl,by rw[k a Ï];exact q,l,r.re g.mu g.ex g.nw⟩
 |1,u,v,Lk,k,h=>⟨h.1,h.2.re g.mu g.ex g.nw⟩
 |n+2,u,v,Lk,k,h=>by
  obtain⟨a,us,es,Mqq,e1,e2,e,d,z,l,al⟩:=h;subst e;have ka:=k a Ï;exact⟨a,us,es,Mqq,e1,e2,rfl,d.re ka g.tup,(by rw[ka];exact z),l,al.imp λu v L' s p=>Dp.re g (λb hb=>k b (Ö _ (s b hb))) p⟩
theorem gq.rps {P:U->V->List I->Prop}:∀{us:List U} {vs:List V} {Lk:List I},(∀u v L',(∀b∈L',b∈Lk)->P u v L'->Rp K H A' u v)->gq P us vs Lk->aP K H A' us vs
 | [],_,_,_,⟨e,_⟩=>by subst e;exact aP.nil
 |u::us,_,_,f,⟨v,r,L1,L2,e1,e2,p,q⟩=>by
  subst e1 e2;exact aP.cons (f u v L1 (λb hb=>Ł _ hb) p) (q.rps λu v L' s=>f u v L' λb hb=>ĉ _ (s b hb))
theorem dR.at (d:dR H a es)(z:es=[]->H a=J (.dK [])):xW H a (es.map λp=>.tup p.1) (es.map (·.2.2)):=by
 by_cases hz:es=[]
 ·subst hz;exact .inl ⟨[],z rfl,rfl,rfl⟩
 ·exact .inr ⟨es,hz,d,rfl,rfl⟩
theorem Dp.rp:∀{n:Nat} {u:U} {v:V} {Lk:List I},(∀b,A' b->A b/\b∉Lk)->Dp K H A n u v Lk->Rp K H A' u v
 |0,u,v,Lk,k,h=>by
  obtain⟨a,us,xs,e1,e2,e,q,l,r⟩:=h;subst e e2;exact⟨a,xs,e1,λz=>(k a z).2 Ï,q,l,r.mono λb z=>(k b z).1⟩
 |1,u,v,Lk,k,h=>h.2.mono λb z=>(k b z).1
 |n+2,u,v,Lk,k,h=>by
  obtain⟨a,us,es,Mqq,e1,e2,e,d,z,l,al⟩:=h;subst e e2;exact⟨a,es.map _,e1,λy=>(k a y).2 Ï,d.at z,l,al.rps λu v L' s p=>Dp.rp (λb y=>⟨(k b y).1,λw=>(k b y).2 (Ö _ (s b w))⟩) p⟩
structure At (K:È)(H:Hp)(A:I->Prop)(n:Nat)(v:V)(Lk:List I)(m:Nat)(u':U)(v':V)(L':List I)(F:U->U):Prop where
 sub:∀b∈L',b∈Lk
 nod:Lk.Nodup
 nod':L'.Nodup
 dp:Dp K H A m u' v' L'
 all:Dp K H A n (F u') v Lk
 put:∀H' A' w L3,CS A A' H H'->(∀b∈Lk,b∉L'->H' b=H b)->Dp K H' A' m w v' L3->L3.Nodup->(∀b∈L',b∈L3)->(∀b∈L3,b∈L'\/H b=L)->∃L4,Dp K H' A' n (F w) v L4/\L4.Nodup/\(∀b∈Lk,b∈L4)/\(∀b∈L3,b∈L4)/\(∀b∈L4,b∈L3\/b∈Lk)
def At.root {Lk:List I}(h:Dp K H A n u v Lk)(nd:Lk.Nodup):At K H A n v Lk n u v Lk id:=⟨λb h=>h,nd,nd,h,h,λH' A' w L3 g k d n3 s1 s2=>⟨L3,d,n3,s1,λb hb=>hb,λb hb=>.inl hb⟩⟩
def Dp.ne {Lk:List I}(h:Dp K H A n u v Lk)(hb:b∈Lk):H b≠L:=λe=>by
 have:=h.mu hb;rw[e] at this;exact this
theorem CS.trans {A2:I->Prop}(g:CS A A' H H')(un:∀b,H' b=L->H b=L)(g':CS A' A2 H' H2):CS A A2 H H2:=
 ⟨g.mu,λb o nb e=>g'.ex b o (λz=>by rcases g.nw b z with y|y;exact nb y;lia) (g.ex b o nb e),λb z=>by
  rcases g'.nw b z with y|y
  ·exact g.nw b y
  grind⟩
theorem At.set {Lk L3:List I}{w:U}(h:At K H A n v Lk m u' v' L' F)(g:CS A A' H H')(k:∀b∈Lk,b∉L'->H' b=H b)(un:∀b,H' b=L->H b=L)(d:Dp K H' A' m w v' L3)(n3:L3.Nodup)(s1:∀b∈L',b∈L3)(s2:∀b∈L3,b∈L'\/H b=L):∃L4,At K H' A' n v L4 m w v' L3 F/\(∀b∈Lk,b∈L4)/\(∀b∈L4,b∈L3\/b∈Lk):=by
 obtain⟨L4,d4,n4,z1,z3,z2⟩:=h.put H' A' w L3 g k d n3 s1 s2;refine⟨L4,⟨z3,n4,n3,d,d4,λH2 A2 w2 L5 g2 k2 d5 n5 t1 t2=>?_⟩,z1,z2⟩;obtain⟨L6,d6,n6,y1,y3,y2⟩:=h.put H2 A2 w2 L5 (g.trans un g2) (λb hb nb=>by
   rw[k2 b (z1 b hb) (λy=>by
    rcases s2 b y with y|y
    ·exact nb y
    ·exact h.all.ne hb y),k b hb nb]) d5 n5 (λb hb=>t1 b (s1 b hb)) (λb hb=>by
   grind)
 grind
def At.keep {Lk:List I}(h:At K H A n v Lk m u' v' L' F)(g:CS A A' H H')(k:∀b∈Lk,H' b=H b)(un:∀b,H' b=L->H b=L):At K H' A' n v Lk m u' v' L' F:=
 ⟨h.sub,h.nod,h.nod',h.dp.re g λb hb=>k b (h.sub b hb),h.all.re g k,λH2 A2 w2 L5 g2 k2 d5 n5 t1 t2=>h.put H2 A2 w2 L5 (g.trans un g2) (λb hb nb=>by rw[k2 b hb nb,k b hb]) d5 n5 t1 λb hb=>(t2 b hb).imp id (un b)⟩
theorem tL {k w:U}:∀{ks us:List U},k∉ks->ks.length=us.length->Ā (λk' u=>if k'=k then w else u) ks us=us
 | [],[],_,_=>rfl
 |x::ks,y::us,h,l=>by
  rw[ĸ,hZ (λe=>h (by rw[e];exact Ï)),tL (λz=>h (Ö _ z)) (by simpa using l)]
noncomputable abbrev mB (es:List (List U×I×V)):List U:=es.map λp=>.tup p.1
def oE {k:List U}:U.tup k∈mB es↔k∈es.map (·.1):=by
 simp
theorem gq.find {m:Nat}{k:List U}{x:V}:∀{es:List (List U×I×V)} {us:List U} {Mqq:List I},gq (Dp K H A m) us (es.map (·.2.2)) Mqq->(es.map (·.1)).Nodup->Mqq.Nodup->f9 es k=J x->
  ∃u' M',bR (mB es) us (.tup k)=J u'/\k∈es.map (·.1)/\Ā (λk' u=>if k'=.tup k then u' else u) (mB es) us=us/\(∀b∈M',b∈Mqq)/\M'.Nodup/\Dp K H A m u' x M' /\
   ∀H' A' w M3,CS A A' H H'->(∀b∈Mqq,b∉M'->H' b=H b)->Dp K H' A' m w x M3->M3.Nodup->(∀b∈M',b∈M3)->(∀b∈M3,b∈M'\/H b=L)->
    ∃M4,gq (Dp K H' A' m) (Ā (λk' u=>if k'=.tup k then w else u) (mB es) us) (es.map (·.2.2)) M4/\M4.Nodup/\(∀b∈Mqq,b∈M4)/\(∀b∈M3,b∈M4)/\(∀b∈M4,b∈M3\/b∈Mqq)
 | [],_,_,_,_,_,e=>by cases e
 |e::es,us,Mqq,al,nd,nM,hv=>by
  cases us with
  |nil=>obtain⟨z,_⟩:=al;cases z
  |cons u us=>
   obtain⟨v,r,L1,L2,e1,e2,p,q⟩:=al;cases e1;subst e2;rw[Ç] at nd;obtain⟨nd1,nd2⟩:=ø.mp nd;obtain⟨n1,n2,n3⟩:=Ĳ.mp nM;have ql:(mB es).length=us.length:=by rw[q.length,Ê,Ê]
   unfold f9 at hv;rw[Ŝ] at hv;unfold mB;rw[Ç];unfold bR;by_cases c:e.1=k
   ·rw[hJ c] at hv;cases hv;have nk:=λz=>nd1 (by rw[c];exact oE.mp z);refine⟨u,L1,by lia,by rw[<-c];exact Ï,by rw[ĸ,ite_self];exact congrArg _ (tL nk ql),λb hb=>Ł _ hb,n1,p,λH' A' w M3 g kk d5 n5 t1 t2=>?_⟩;rw[ĸ,h_ (by rw[c]),tL nk ql];have dj:=λb hb z=>n3 b z b hb rfl;refine⟨M3++L2,⟨_,_,M3,L2,rfl,rfl,d5,q.imp λu v L' s y=>y.re g λb hb=>kk b (ĉ _ (s b hb)) (dj b (s b hb))⟩,?_,λb hb=>?_,λb hb=>Ł _ hb,λb hb=>?_⟩
    ·refine Ĳ.mpr ⟨n5,n2,λa ha b hb eq=>?_⟩;subst eq;rcases t2 a ha with y|y
     ·exact dj a hb y
     ·obtain⟨_,_,_,z1,z2⟩:=q.mem hb;exact z1.ne z2 y
    ·grind
    grind
   ·rw[hV c] at hv;obtain⟨u',M',y1,y2,y3,y4,y5,y6,y7⟩:=gq.find q nd2 n2 hv;have c' :=λz=>c (tup_inj.mp z);have dj:=λb hb z=>n3 b hb b z rfl;refine⟨u',M',by rw[hZ c'];exact y1,Ö _ y2,by rw[ĸ,hZ c',y3],λb hb=>ĉ _ (y4 b hb),y5,y6,λH' A' w M3 g kk d5 n5 t1 t2=>?_⟩;obtain⟨M4,z1,z2,z3,z4,z5⟩:=y7 H' A' w M3 g (λb hb=>kk b (ĉ _ hb)) d5 n5 t1 t2;rw[ĸ,hZ c'];refine⟨L1++M4,⟨_,_,L1,M4,rfl,rfl,p.re g λb hb=>kk b (Ł _ hb) λz=>dj b hb (y4 b z),z1⟩,?_,λb hb=>?_,λb hb=>ĉ _ (z4 b hb),λb hb=>?_⟩
    ·refine Ĳ.mpr ⟨n1,z2,λa ha b hb eq=>?_⟩;subst eq;rcases z5 a hb with y|y
     ·rcases t2 a y with x|x
      ·exact dj a ha (y4 a x)
      ·exact p.ne ha x
     ·exact dj a ha y
    ·grind
    grind
theorem At.child {Lk Mqq:List I}{k:List U}{x:V}(h:At K H A n v Lk (m+2) (.dct (mB es) us) (.ref a) (a::Mqq) F)(d:dR H a es)(z:es=[]->H a=J (.dK []))(l:us.length<=Å)(al:gq (Dp K H A m) us (es.map (·.2.2)) Mqq)(hv:f9 es k=J x) :
  ∃u' L2,bR (mB es) us (.tup k)=J u'/\F (.dct (cq (mB es) (.tup k)) (bS (mB es) us (.tup k) u'))=F (.dct (mB es) us)/\At K H A n v Lk m u' x L2 (λw=>F (.dct (cq (mB es) (.tup k)) (bS (mB es) us (.tup k) w))):=by
 obtain⟨na,nM⟩:=ø.mp h.nod';obtain⟨u',M',y1,y2,y3,y4,y5,y6,y7⟩:=al.find d.nd nM hv;have hk:=oE.mpr y2;have e1:cq _ _=mB es:=h_ hk;have e2:∀w,bS _ us _ w=Ā _ _ us:=λw=>h_ hk;have e3:F (.dct (cq (mB es) (.tup k)) (bS (mB es) us (.tup k) u'))=F (.dct (mB es) us):=by rw[e1,e2,y3]
 refine⟨u',M',y1,e3,⟨λb hb=>h.sub b (Ö _ (y4 b hb)),h.nod,y5,y6,by rw[e3];exact h.all,λH' A' w L3 g kk d5 n5 t1 t2=>?_⟩⟩;have ka:=kk a (h.sub a Ï) λq=>na (y4 a q);obtain⟨M4,z1,z2,z3,z4,z5⟩:=y7 H' A' w L3 g (λb hb nb=>kk b (h.sub b (Ö _ hb)) nb) d5 n5 t1 t2;have n4:=ø.mpr ⟨λq=>by
  rcases z5 a q with y|y
  ·rcases t2 a y with x|x
   ·exact na (y4 a x)
   ·exact h.dp.ne Ï x
  ·exact na y,z2⟩
 obtain⟨L4,w1,w2,w3,w4,w5⟩:=h.put H' A' (.dct _ (bS _ us _ w)) _ g (λb hb nb=>kk b hb λq=>nb (Ö _ (y4 b q)))
  ⟨a,_,es,M4,rfl,rfl,rfl,d.re ka g.tup,(by rw[ka];exact z),by rw[e2,ŋ];lia,by rw[e2];exact z1⟩ n4 (λb hb=>by
   grind) (λb hb=>by
   grind)
 refine⟨L4,by rw[e1];exact w1,w2,w3,λb hb=>w4 b (Ö _ (z4 b hb)),λb hb=>?_⟩;rcases w5 b hb with y|y
 ·rcases Ø.mp y with rfl|y
  ·exact .inr (h.sub b Ï)
  ·rcases z5 b y with x|x
   ·exact .inl x
   ·exact .inr (h.sub b (Ö _ x))
 ·exact .inr y
theorem gq.snoc {P:U->V->List I->Prop}(p:P u v L'):∀{us:List U} {vs:List V} {Lk:List I},gq P us vs Lk->gq P (us++[u]) (vs++[v]) (Lk++L')
 | [],_,_,⟨e1,e2⟩=>by subst e1 e2;exact⟨v,[],L',[],rfl,(Ĝ _).symm,p,rfl,rfl⟩
 |w::us,_,_,⟨x,r,L1,L2,e1,e2,q,al⟩=>by subst e1 e2;exact⟨x,r++[v],L1,L2++L',rfl,Ĩ _ _ _,q,al.snoc p⟩
theorem vq {k:List U}(h:f9 es k=L):k∉es.map (·.1):=λz=>by
 obtain⟨e,he,rfl⟩:=Ú.mp z;unfold f9 at h;rw[Option.map_eq_none_iff,List.find?_eq_none] at h;exact h e he (hJ rfl)
def IJ {k:List U}(h:f9 es k=L):f9 (es++[(k,b,v)]) k=J v:=by
 unfold f9 at h |-;grind
def IK {k w:U}(h:k∉ks)(l:ks.length=us.length):Ā (λk' u=>if k'=k then w else u) (ks++[k]) (us++[u])=us++[w]:=by
 rw[List.zipWith_append l,tL h l];simp
theorem oF {k:U}:∀{ks us:List U},k∉ks->bR ks us k=L
 | [],us,_=>by rfl
 |x::ks,[],_=>by rfl
 |x::ks,y::us,h=>by unfold bR;rw[hZ (λe=>h (by rw[e];exact Ï))];exact oF λz=>h (Ö _ z)
theorem yx {k u:U}:∀{ks us:List U},k∉ks->ks.length=us.length->bR (ks++[k]) (us++[u]) k=J u
 | [],[],_,_=>by show bR [k] [u] k=_;unfold bR;rw[h_ rfl]
 |x::ks,y::us,h,l=>by show bR (x::(ks++[k])) (y::(us++[u])) k=_;unfold bR;rw[hZ (λe=>h (by rw[e];exact Ï))];exact yx (λz=>h (Ö _ z)) (by simpa using l)
theorem At.new {H0:Hp}{c:I}{Lk Mqq:List I}{k:List U}{u0:U}(h:At K H0 A n v Lk (m+2) (.dct (mB es) us) (.ref a) (a::Mqq) F)(d:dR H0 a es)(l:us.length<Å)(al:gq (Dp K H0 A m) us (es.map (·.2.2)) Mqq)(mu:∀b,A b->Mu (H0 b))(aa:∀b∈Lk,A b)(s0:aN H0 H)(nc:H0 c=L)(kb:tf H k b)(hv:f9 es k=L)(h':H'=bc H a (DN a ep (eY es k b (.ref c))))(dc:∀H',H' c=H c->(∀b,Mu (H b)\/H' b=H b)->Dp K H' (λb=>A b\/b=c) m u0 (.ref c) [c]) :
  ∃L4 L2,bR (mB es) us (.tup k)=L/\At K H' (λb=>A b\/b=c) n v L4 m u0 (.ref c) L2 (λw=>F (.dct (cq (mB es) (.tup k)) (bS (mB es) us (.tup k) w)))/\(∀b∈Lk,b∈L4)/\(∀b∈L4,b∈Lk\/b=c)/\CS A (λb=>A b\/b=c) H0 H':=by
 have nk:=vq hv;have YL:=λz=>nk (oE.mp z);have ll:(mB es).length=us.length:=by rw[al.length,Ê,Ê]
 have pe:eY es k b (.ref c)=es++[(k,b,.ref c)]:=by unfold eY;rw[hv];rfl
 rw[pe] at h';have aA:=aa a (h.sub a Ï);have ha:H' a=J (DN a ep (es++[(k,b,.ref c)])):=by rw[h'];unfold bc;rw[h_ rfl]
 have hb:∀b,b≠a->H' b=H b:=λb nb=>by simp_all[bc,hZ]
 have ca:c≠a:=λe=>by
  have:=mu a aA;rw[<-e,nc] at this;exact this
 have cM:=λz=>h.all.ne (h.sub c (Ö _ z)) nc;obtain⟨na,nM⟩:=ø.mp h.nod';have g:CS A (λb=>A b\/b=c) H0 H':=⟨mu,λb o nb e=>by rw[hb b (λz=>nb (z▸aA))];exact s0 b o e,λb z=>z.imp id λe=>by lia⟩;have un:∀b,H' b=L->H0 b=L:=λx e=>by
  by_cases xa:x=a
  ·lia
  ·rw[hb x xa] at e;cases q:H0 x with
   |none=>rfl
   |some o=>rw[s0 x o q] at e;cases e
 have kL:∀b∈Lk,b≠a->H' b=H0 b:=λx hx xa=>by
  rw[hb x xa];cases q:H0 x with
  |none=>exact absurd q (h.all.ne hx)
  |some o=>exact s0 x o q
 have d2:dR H' a _:=⟨.inl ⟨ep,ha⟩,by
  rw[ð,Ĳ];refine⟨d.nd,ķ _ _,λx hx y hy=>?_⟩;grind,λe he=>by
  rcases ı.mp he with he|he
  ·exact (d.key e he).to g.tup
  ·rw[Ą] at he;subst he;refine kb.to λx ys q=>?_;rw[hb x (λz=>?_)]
   ·exact q
   ·have:=mu a aA;obtain⟨o,e⟩:=this.ex;rw[e] at this;rw[z,s0 a o e] at q;cases q;exact this⟩
 have em:(es++[(k,b,V.ref c)]).map (·.2.2)=es.map (·.2.2)++[.ref c]:=by rw[ð];rfl
 have ek:mB (es++[(k,b,V.ref c)])=mB es++[.tup k]:=by simp
 have VR:gq (Dp K H' (λb=>A b\/b=c) m) (us++[u0]) ((es++[(k,b,V.ref c)]).map (·.2.2)) (Mqq++[c]):=by
  rw[em];refine gq.snoc (dc H' (hb c ca) λx=>?_) (al.imp λu v L' s p=>p.re g λx hx=>kL x (h.sub x (Ö _ (s x hx))) λe=>na (e▸s x hx));by_cases xa:x=a
  ·refine .inl ?_;have:=mu a aA;obtain⟨o,e⟩:=this.ex;rw[xa,s0 a o e,<-e];exact this
  ·exact .inr (hb x xa)
 obtain⟨L4,h4,z1,z2⟩:=h.set g (λx hx nx=>kL x hx λe=>nx (by rw[e];exact Ï)) un
  ⟨a,_,_,_,rfl,rfl,rfl,d2,(λe=>absurd e (by simp)),by rw[ã];exact l,VR⟩
  (ø.mpr ⟨λz=>by
   grind,Ĳ.mpr ⟨nM,ķ _ _,λx hx y hy e=>by
    grind⟩⟩)
  (λx hx=>by
   grind)
  (λx hx=>by
   grind)
 obtain⟨u',L2,y1,y2,y3⟩:=h4.child d2 (λe=>absurd e (by simp)) (by rw[ã];exact l) VR (IJ hv);rw[ek,yx YL ll] at y1;cases y1;have e1:cq _ _=mB es++[.tup k]:=hZ YL;have e2:∀w,bS _ us _ w=us++[w]:=λw=>hZ YL;have e3:(λw=>F (.dct (cq (mB (es++[(k,b,V.ref c)])) (.tup k)) (bS (mB (es++[(k,b,V.ref c)])) (us++[u0]) (.tup k) w)))=(λw=>F (.dct (cq (mB es) (.tup k)) (bS (mB es) us (.tup k) w))):=by
  funext w;have m:U.tup k∈mB es++[.tup k]:=ĉ _ Ï;rw[ek,show cq _ _=mB es++[.tup k] from h_ m,show bS _ _ _ w=_ from h_ m,IK YL ll,e1,e2]
 rw[e3] at y3;refine⟨L4,L2,oF YL,y3,z1,λx hx=>?_,g⟩;rcases z2 x hx with y|y
 ·rcases Ø.mp y with y|y
  ·rw[y];exact .inl (h.sub a Ï)
  ·rcases ı.mp y with y|y
   ·exact .inl (h.sub x (Ö _ y))
   grind
 ·exact .inl y
end
end L2
namespace L2
open Classical in
noncomputable def Pkg.hx (ZQ:Pkg)(H:Hp)(Lk:List I):Pkg:=⟨λb=>ZQ.A0 b\/b∈Lk,λb=>if b∈Lk then H b else ZQ.B b,ZQ.a0⟩
section
variable {A':I->Prop}{B':Ev}{Y':St}{Lk:List I}
def rN (h:b∈Lk):(ZQ.hx H Lk).B b=H b:=h_ h
def cD (h:b∉Lk):(ZQ.hx H Lk).B b=ZQ.B b:=hZ h
structure lE (K:È)(G:Gm)(ZQ:Pkg)(A:I->Prop)(B:Ev)(Y:St)(H:Hp)(i n:Nat)(u:U)(v:V)(Lk:List I):Prop where
 at_:Y[i]? = J (J v)
 nod:Lk.Nodup
 fr:∀b∈Lk,ZQ.B b=L/\¬ZQ.A0 b
 dp:Dp K H A n u v Lk
 rel:cz K G (ZQ.hx H Lk) A (B.set i L) Y H
def lE.inA (h:lE K G ZQ A B Y H i n u v Lk)(hb:b∈Lk):A b:=h.rel.sup b (.inr hb)
def Py (h:∀b∈Lk,H' b=H b):ZQ.hx H' Lk=ZQ.hx H Lk:=by
 simp_all[Pkg.hx,h_,hZ]
theorem lE.kept (h:lE K G ZQ A B Y H i n u v Lk)(s:aN H H'):∀b∈Lk,H' b=H b:=λb hb=>by
 cases q:H b with
 |none=>exact absurd q (h.dp.ne hb)
 |some o=>exact s b o q
def kF (m:∀b,A b->Mu (H b))(s:aN H H'):CS A A H H':=⟨m,dP.same s,λb z=>.inl z⟩
theorem Gk (s:aN H H'):∀b,H' b=L->H b=L:=λb e=>by
 cases q:H b with
 |none=>rfl
 |some o=>rw[s b o q] at e;cases e
def lE.same (h:lE K G ZQ A B Y H i n u v Lk)(s:aN H H'):lE K G ZQ A B Y H' i n u v Lk:=
 ⟨h.at_,h.nod,h.fr,h.dp.re (kF h.rel.mu s) (h.kept s),by rw[Py (h.kept s)];exact h.rel.same s⟩
theorem lE.put (h:lE K G ZQ A B Y H i n u v Lk)(g:CS A A' H H')(aa:∀b,A b->A' b)(k:∀b,b∉L'->H b≠L->H' b=H b)(nd:L'.Nodup)(s1:∀b∈Lk,b∈L')(s2:∀b∈L',b∈Lk\/H b=L)(ia:∀b∈L',A' b)(oa:∀b,A' b->A b\/b∈L')
  (d:Dp K H' A' n u' v L') (e:B'.set i L=B.set i L):lE K G ZQ A' B' Y H' i n u' v L':=by
 have pH:∀b,A b->b∉Lk->b∉L':=λb ha nb z=>by
  rcases s2 b z with y|y
  ·exact nb y
  ·have:=h.rel.mu b ha;rw[y] at this;exact this
 have ne:∀b,A b->H b≠L:=λb ha e=>by
  have:=h.rel.mu b ha;rw[e] at this;exact this
 have nL:∀b,A b->(ZQ.hx H Lk).B b=L->b∉Lk:=λb ha e z=>by
  simp_all[rN]
 refine⟨h.at_,nd,λb hb=>?_,d,?_⟩
 ·rcases s2 b hb with y|y
  ·exact h.fr b y
  ·refine⟨?_,λz=>ne b (h.rel.sup b (.inl z)) y⟩;cases q:ZQ.B b with
   |none=>rfl
   |some o=>
    by_cases c:b∈Lk
    ·exact absurd y (h.dp.ne c)
    ·have:=h.rel.bas b o (by rw[cD c];exact q);lia
 ·rw[e];exact {
   slot:=λj w hj=>by
    obtain⟨x,x1,x2⟩:=h.rel.slot j w hj;refine⟨x,x1,?_⟩;by_cases c:G.is j=Z
    ·rw[h_ c] at x2 |-;obtain⟨a,e1,e2,e3,e4,e5⟩:=x2;have na:=nL a e2 e3;have na':=pH a e2 na;refine⟨a,e1,aa a e2,?_,e4.imp (λy z=>y (z.imp id λq=>absurd q na')) id,e5.re g.mu g.ex g.nw λo w=>?_⟩
     ·simp_all[cD]
     grind
    ·rw[hZ c] at x2 |-;exact x2.re g.mu g.ex g.nw
   dis:=h.rel.dis
   mu:=λb z=>by
    by_cases c:b∈L'
    ·exact d.mu c
    ·rcases oa b z with y|y
     ·rw[k b c (ne b y)];exact h.rel.mu b y
     lia
   sup:=λb z=>by
    rcases z with z|z
    ·exact aa b (h.rel.sup b (.inl z))
    ·exact ia b z
   out:=λb z=>by
    by_cases c:b∈L'
    ·exact .inl (.inr c)
    ·rcases oa b z with y|y
     ·rcases h.rel.out b y with q|q
      ·rcases q with q|q
       ·exact .inl (.inl q)
       grind
      ·rw[cD λz=>c (s1 b z)] at q;simp_all[cD]
     lia
   bas:=λb o z=>by
    by_cases c:b∈L'
    ·rw[rN c] at z;exact z
    ·rw[cD c] at z;have cL:=λy=>c (s1 b y);have:=h.rel.bas b o (by rw[cD cL];exact z);grind
   io0:=h.rel.io0
   len:=h.rel.len}
theorem cz.hid (q:cz K G ZQ A B Y H)(c:G.is i=Z)(hi:G.io=Z->i≠0)(h:B[i]? = J (J (.dct [] []))):∃a,lE K G ZQ A B Y H i (n+2) (.dct [] []) (.ref a) [a]:=by
 obtain⟨a,h1,h2,h3,h4,h5⟩:=q.own c h;have na:¬ZQ.A0 a:=by
  lia
 have hk:H a=J (.dK []):=by
  obtain⟨xs,d,_⟩:=h5;rcases d with⟨aV,d1,d2,_⟩|⟨es,d0,_,d2,_⟩
  ·grind
  grind
 have ne:∀j w b,i≠j->G.is j=Z->B[j]? = J _->Y[j]? = J (J _)->b≠a:=λj w b n1 cj e1 e2 e=>by
  subst e;exact q.dis i j _ w b c cj n1 h e1 h1 e2
 refine⟨a,h1,ķ _ _,λb hb=>?_,⟨a,[],[],[],rfl,rfl,rfl,⟨.inr ⟨rfl,hk⟩,Ģ,(λe he=>nomatch he)⟩,λ_=>hk,ė _,rfl,rfl⟩,?_⟩
 ·grind
 ·exact {
   slot:=λj w hj=>by
    rcases cU hj with⟨rfl,e⟩|⟨n1,e⟩
    ·cases e
    ·obtain⟨x,x1,x2⟩:=q.slot j w e;refine⟨x,x1,?_⟩;by_cases cj:G.is j=Z
     ·rw[h_ cj] at x2 |-;obtain⟨b,e1,e2,e3,e4,e5⟩:=x2;subst e1;have nb:=ne j w b n1 cj e x1;have nb' :=λz=>nb (Ą.mp z);exact⟨b,rfl,e2,by rw[cD nb'];exact e3,e4.imp (λy z=>y (z.elim id λq=>absurd q nb')) id,e5⟩
     ·rw[hZ cj] at x2 |-;exact x2
   dis:=(q.drop i).dis
   mu:=q.mu
   sup:=λb z=>by
    rcases z with z|z
    ·exact q.sup b z
    grind
   out:=λb z=>by
    by_cases y:b∈[a]
    ·exact .inl (.inr y)
    ·exact (q.out b z).imp (λw=>.inl w) λw=>by rw[cD y];exact w
   bas:=λb o z=>by
    by_cases y:b∈[a]
    ·rw[rN y] at z;exact z
    ·rw[cD y] at z;exact q.bas b o z
   io0:=q.io0
   len:=by rw[ġ];exact q.len}
theorem lE.un (h:lE K G ZQ A B Y H i (n+2) u v Lk)(c:G.is i=Z)(hu:B[i]? = J (J u)):cz K G ZQ (λb=>A b/\(b∈Lk->v=.ref b)) B Y H:=by
 obtain⟨a,us,es,Mqq,e1,e2,e3,d,z,l,al⟩:=id h.dp;subst e1 e2 e3;obtain⟨na,nM⟩:=ø.mp h.nod;have ha:a∈a::Mqq:=Ï;have nL:∀b,A b->(ZQ.hx H _).B b=L->b∉a::Mqq:=λb hA e y=>by
  rw[rN y] at e;exact h.dp.ne y e
 have av:∀b,(A b/\(b∈a::Mqq->V.ref a=.ref b))->A b/\b∉Mqq:=λb y=>⟨y.1,λw=>by
  grind⟩
 have AD:∀j w,i≠j->B[j]? = J (J w)->(B.set i L)[j]? = J _:=λj w n1 e=>by rw[ē n1];exact e
 exact {
  slot:=λj w hj=>by
   by_cases n1:i=j
   ·subst n1;rw[hu] at hj;cases hj;refine⟨.ref a,h.at_,?_⟩;rw[h_ c];refine⟨a,rfl,⟨h.inA ha,λ_=>rfl⟩,(h.fr a ha).1,.inl (h.fr a ha).2,?_⟩;exact⟨es.map _,d.at z,l,al.rps λu v L' s p=>Dp.rp (λb y=>⟨y.1,λw=>(av b y).2 (s b w)⟩) p⟩
   ·obtain⟨x,x1,x2⟩:=h.rel.slot j w (AD j w n1 hj);refine⟨x,x1,?_⟩;by_cases cj:G.is j=Z
    ·rw[h_ cj] at x2 |-;obtain⟨b,e1,e2,e3,e4,e5⟩:=x2;have nb:=nL b e2 e3;exact⟨b,e1,⟨e2,λy=>absurd y nb⟩,by simp_all[cD],e4.imp (λy w=>y (.inl w)) id,e5.mono λb y=>y.1⟩
    ·rw[hZ cj] at x2 |-;exact x2.mono λb y=>y.1
  dis:=λj k w w' b cj ck n1 hj hk sj sk=>by
   have key:∀k w',G.is k=Z->i≠k->B[k]? = J _->Y[k]? ≠ J (J (.ref a)):=λk w' ck n2 e y=>by
    obtain⟨b,x1,x2,x3,_⟩:=h.rel.own ck (AD k w' n2 e);grind
   by_cases n2:i=j
   ·subst n2;rw[h.at_] at sj;grind
   ·by_cases n3:i=k
    ·subst n3;rw[h.at_] at sk;grind
    ·exact h.rel.dis j k w w' b cj ck n1 (AD j w n2 hj) (AD k w' n3 hk) sj sk
  mu:=λb y=>h.rel.mu b y.1
  sup:=λb y=>⟨h.rel.sup b (.inl y),λw=>absurd y (h.fr b w).2⟩
  out:=λb y=>by
   by_cases w:b∈a::Mqq
   ·exact .inr (h.fr b w).1
   ·rcases h.rel.out b y.1 with q|q
    ·exact .inl (q.elim id λx=>absurd x w)
    ·rw[cD w] at q;exact .inr q
  bas:=λb o y=>by
   have w:b∉a::Mqq:=λx=>by rw[(h.fr b x).1] at y;cases y
   exact h.rel.bas b o (by rw[cD w];exact y)
  io0:=h.rel.io0
  len:=by have:=h.rel.len;grind}
theorem cz.pkg {Z':Pkg}(q:cz K G ZQ A B Y H)(e0:Z'.a0=ZQ.a0)(e1:∀b,Z'.A0 b↔ZQ.A0 b)(hB:∀b,A b->ZQ.B b=L->Z'.B b=L)(bas:∀b o,Z'.B b=J o->H b=J o):cz K G Z' A B Y H where
 slot:=λj w hj=>by
  obtain⟨x,x1,x2⟩:=q.slot j w hj;refine⟨x,x1,?_⟩;by_cases c:G.is j=Z
  ·rw[h_ c] at x2 |-;obtain⟨b,VX,e2,e3,e4,e5⟩:=x2;exact⟨b,VX,e2,hB b e2 e3,e4.imp (λy z=>y ((e1 b).mp z)) id,e5⟩
  ·rw[hZ c] at x2 |-;exact x2
 dis:=q.dis
 mu:=q.mu
 sup:=λb z=>q.sup b ((e1 b).mp z)
 out:=λb z=>(q.out b z).imp (λy=>(e1 b).mpr y) (hB b z)
 bas:=bas
 io0:=λz=>by rw[e0];exact q.io0 z
 len:=q.len
theorem lE.lp (h:lE K G ZQ A B Y H i n u v Lk):lE K G (ZQ.lp A H) A B Y H i n u v Lk:=
 ⟨h.at_,h.nod,λb hb=>⟨lA (h.inA hb) (h.fr b hb).1,(h.fr b hb).2⟩,h.dp,h.rel.pkg rfl (λb=>Iff.rfl) (λb ha e=>by
  by_cases c:b∈Lk
  ·simp_all[rN]
  simp_all[cD,lA]) λb o e=>by
  by_cases c:b∈Lk
  ·rw[rN c] at e;exact e
  ·rw[cD c] at e;by_cases y:A b/\ZQ.B b=L
   ·simp_all[lA]
   simp_all[iD]⟩
theorem R6 (h:lE K G ZQ A B Y H i n u v Lk)(e:(ZQ.lp A H).B b=L):ZQ.B b=L:=by
 rcases uy e with y|y
 ·exact y.2
 ·cases q:ZQ.B b with
  |none=>rfl
  |some o=>
   have c:b∉Lk:=λz=>by rw[(h.fr b z).1] at q;cases q
   have:=h.rel.bas b o (by rw[cD c];exact q);lia
theorem lE.unlp (h:lE K G ZQ A B Y H i n u v Lk)(h':lE K G (ZQ.lp A H) A' B' Y' H' i n u' v' L'):lE K G ZQ A' B' Y' H' i n u' v' L' :=
 ⟨h'.at_,h'.nod,λb hb=>⟨R6 h (h'.fr b hb).1,(h'.fr b hb).2⟩,h'.dp,h'.rel.pkg rfl (λb=>Iff.rfl) (λb ha e=>by
  by_cases c:b∈L'
  ·simp_all[rN]
  ·rw[cD c] at e |-;exact R6 h e) λb o e=>by
  by_cases c:b∈L'
  ·rw[rN c] at e;exact e
  ·rw[cD c] at e;refine h'.rel.bas b o ?_;rw[cD c,iD (λy=>by lia)];have cL:b∉Lk:=λz=>by rw[(h.fr b z).1] at e;cases e
   exact h.rel.bas b o (by rw[cD cL];exact e)⟩
theorem lE.ext (h:lE K G ZQ A B Y H i n u v Lk)(h':lE K G (ZQ.lp A H) A' B' Y' H' i n u' v' L'):dP A H H'/\∀b,A' b->A b\/H b=L:=by
 refine⟨λb o nb e=>?_,λb z=>?_⟩
 ·have lb:(ZQ.lp A H).B b=J o:=by simp_all[iD]
  have c:b∉L':=λy=>by rw[(h'.fr b y).1] at lb;cases lb
  exact h'.rel.bas b o (by rw[cD c];exact lb)
 ·have f:(ZQ.lp A H).B b=L->A b\/H b=L:=λy=>(uy y).imp (λw=>w.1) id;rcases h'.rel.out b z with y|y
  ·rcases y with y|y
   ·exact .inl (h.rel.sup b (.inl y))
   ·exact f (h'.fr b y).1
  ·by_cases c:b∈L'
   ·exact f (h'.fr b c).1
   ·rw[cD c] at y;exact f y
def oG (K:È)(G:Gm)(ZQ:Pkg)(i n:Nat):SR->lX->Prop
 | .nx B',D=>∀A' Y' H' u' v' L',lE K G ZQ A' B' Y' H' i n u' v' L'->B'[i]? = J (J u')->D.nx Y' H'
 | .bk B',D=>∀A' Y' H' u' v' L',lE K G ZQ A' B' Y' H' i n u' v' L'->B'[i]? = J (J u')->D.bk Y' H'
 | .ct B',D=>∀A' Y' H' u' v' L',lE K G ZQ A' B' Y' H' i n u' v' L'->B'[i]? = J (J u')->D.ct Y' H'
 |_,_=>False
def tDD (K:È)(G:Gm)(i n:Nat)(g:Ev->SR):TS:=λD Y H=>∃ZQ A B u v Lk,lE K G ZQ A B Y H i n u v Lk/\B[i]? = J (J u)/\oG K G ZQ i n (g B) D
theorem oG.lp (h:lE K G ZQ A B Y H i n u v Lk){r:SR}{D:lX}(f:oG K G ZQ i n r D):oG K G (ZQ.lp A H) i n r D:=by
 cases r with
 |nx=>exact λA' Y' H' u' v' L' h'=>f A' Y' H' u' v' L' (h.unlp h')
 |bk=>exact λA' Y' H' u' v' L' h'=>f A' Y' H' u' v' L' (h.unlp h')
 |ct=>exact λA' Y' H' u' v' L' h'=>f A' Y' H' u' v' L' (h.unlp h')
 |rt=>exact f.elim
 |exc=>exact f.elim
 |stk=>exact f.elim
theorem oG.of {α:Type}{x:R α}{k:α->SR}{D:lX}(f:oG K G ZQ i n (SR.of x k) D):∃a,x=.ok a/\oG K G ZQ i n (k a) D:=by
 cases x with
 |ok a=>exact⟨a,rfl,f⟩
 |exc=>exact f.elim
 |stk=>exact f.elim
end
structure DD (X:Cx)(G:Gm)(i n:Nat)(st:Ë)(g:Ev->SR):Prop where
 un:PS X st (tDD X.K G i n g)
structure Uo (X:Cx)(G:Gm)(i n:Nat)(st:List Ë)(g:Ev->SR):Prop where
 un:tX X st (tDD X.K G i n g)
section
variable {e a b c o f:Æ}{rest:List Ë}{es:List Æ}{pos cO bW:Pos}{b1 b2:Bool}{m1 m2 m:Md}{g1 g2:Ev->R (U×Ev)}{h1:Ev->R (Bool×Ev)}{s1 s2:Ev->SR}
def Pz:Uo X G i n [] cA:=⟨sZ.to λD Y H ⟨ZQ,A,B,u,v,Lk,h,hu,f⟩=>f A Y H u v Lk h hu⟩
def Gn (h:DD X G i n st s1):Uo X G i n [st] s1:=⟨Ff h.un⟩
def BQ (i:Nat)(sg:U->Ev->R Ev)(s:Ev->SR):List U->Ev->SR
 | [],B=>.nx B
 |u::us,B=>SR.of (sg u (B.set i L)) λB1=>match s (B1.set i (B[i]?.getD L)) with
   | .nx B2=>BQ i sg s us B2
   | .ct B2=>BQ i sg s us B2
   | .bk B2=>.nx B2
   |r=>r
def vt (i:Nat)(gi:Ev->R (List U×Ev))(sg:U->Ev->R Ev)(s:Ev->SR):Ev->SR:=λB=>SR.of (gi (B.set i L)) λx=>BQ i sg s x.1 B
theorem Up {gi:Ev->R (List U×Ev)}(hp:ř (Ä X.prog X.w) X.A X.env X.xe)(hc:X.calm=Z)(hi:DI X G tg iter M M gi)(hg:DG X G tg sg)(hb:Uo X G i n body s1)(ci:G.is i=Z:=by rfl)(hs:∀x,ĭ iter X.env x=pure x:=by intro _;rfl):DD X G i n (.For tg iter body [] pos) (vt i gi sg s1):=⟨(Fs hp hc hi.un hg.un hb.un hs).to λD Y H h00=>by
 obtain⟨ZQ,A,B,u,v,Lk,h,hu,f⟩:=h00;obtain⟨⟨us,B1⟩,e1,f⟩:=f.of;refine⟨ZQ.hx H Lk,A,B.set i L,h.rel,?_⟩;rw[e1];intro Jqq H1 q1 x1 AB wk;have h1:=h.same (AB rfl).2;obtain⟨hz,wk⟩:=wk;refine⟨λj k Y H=>j+k=us.length/\∃A' B' u' v' L',lE X.K G _ A' B' Y H i n u' v' L'/\B'[i]? = J (J u')/\oG X.K G _ i n (BQ i sg s1 (us.drop j) B') D,⟨us.length,by lia,A,B,u,v,Lk,h1.lp,hu,by exact f.lp h1⟩,?_⟩;rintro j k Y H ⟨hk,A',B',u',v',L',h',dB,f'⟩;obtain⟨ex,nw⟩:=h1.ext h';obtain⟨w1,w2⟩:=wk H A' (by exact ex) nw;by_cases pq:j<us.length
 ·have eu:=á pq;obtain⟨go,yl⟩:=w1 j _ eu;rw[Ķ pq] at f';obtain⟨B2,e2,f2⟩:=f'.of;refine .inr ⟨go,λY H=>∃A' B' u' v' L',lE X.K G _ A' B' Y H i n u' v' L'/\B'[i]? = J _/\oG X.K G _ i n _ D,λY' H' z=>⟨k-1,by lia,by lia,z⟩,λx H' y=>?_⟩;obtain⟨sm,rp⟩:=yl x H' y;have h2:=h'.same sm;refine⟨(ZQ.lp A H1).hx H' L',A',B'.set i L,us[j],h2.rel,rp,?_⟩;rw[e2];intro Y2 q2 keep;have CY:Y2[i]? = J (J v'):=by rw[keep i ci];exact h2.at_
  have il:i<B2.length:=by
   rw[q2.len];exact (é.mp CY).1
  have YM:(B2.set i _)[i]? = J (J u'):=ŉ il;rw[dB,Option.getD_some] at f2;refine⟨ZQ.lp A H1,A',B2.set i _,u',v',L',⟨CY,h2.nod,h2.fr,h2.dp,by rw[List.set_set];exact q2.drop i⟩,YM,?_⟩;cases e3:s1 _ with
  |nx B3=>rw[e3] at f2;exact λA3 Y3 H3 u3 v3 L3 h3 hu3=>⟨A3,B3,u3,v3,L3,h3,hu3,f2⟩
  |ct B3=>rw[e3] at f2;exact λA3 Y3 H3 u3 v3 L3 h3 hu3=>⟨A3,B3,u3,v3,L3,h3,hu3,f2⟩
  |bk B3=>rw[e3] at f2;exact f2
  |rt=>rw[e3] at f2;exact f2
  |exc=>rw[e3] at f2;exact f2
  |stk=>rw[e3] at f2;exact f2
 ·have e:j=us.length:=by lia
  subst e;rw[ş] at f';exact .inl ⟨w2,f' A' Y H u' v' L' h' dB⟩⟩
noncomputable def yy (i:Nat)(g:Ev->SR):Ev->SR:=λB=>match B[i]? with
 |some (J (.dct [] []))=>match g B with
  | .nx B'=>.nx B'
  | .bk B'=>.bk B'
  | .ct B'=>.ct B'
  |_=>.stk
 |_=>.stk
theorem PB (h:DD X G i (n+2) st s1)(hi:G.io=Z->i≠0:=by decide)(c:G.is i=Z:=by rfl):DS X G m st (yy i s1):=⟨h.un.to λD Y H h00=>by
 obtain⟨ZQ,A,B,q,f⟩:=h00;unfold yy at f;split at f
 ·rename_i hu;obtain⟨a,hd⟩:=q.hid c hi hu;refine⟨ZQ,A,B,_,_,_,hd,hu,?_⟩;cases e:s1 B with
  |nx=>rw[e] at f;exact λA' Y' H' u' v' L' h' dB=>f _ Y' H' (h'.un c dB)
  |bk=>rw[e] at f;exact λA' Y' H' u' v' L' h' dB=>f _ Y' H' (h'.un c dB)
  |ct=>rw[e] at f;exact λA' Y' H' u' v' L' h' dB=>f _ Y' H' (h'.un c dB)
  |rt=>rw[e] at f;exact f.elim
  |exc=>rw[e] at f;exact f.elim
  |stk=>rw[e] at f;exact f.elim
 ·exact f.elim⟩
end
end L2
namespace L2
noncomputable def BR (i:Nat):Ev->R (U×(U->U)):=λB=>match B[i]? with
 |some (J u)=>.ok (u,id)
 |_=>.stk
def Y8 (K:È)(G:Gm)(i n m:Nat)(gp:Ev->R (U×(U->U))):TE:=λY H Q=>∃ZQ A B u v Lk,lE K G ZQ A B Y H i n u v Lk/\B[i]? = J (J u)/\match gp B with
 | .ok (u',F)=>∀A1 H1 L1 v' L',lE K G ZQ A1 B Y H1 i n (F u') v L1->At K H1 A1 n v L1 m u' v' L' F->Q v' H1
 |_=>False
noncomputable def Z_:Nat->HO
 |0=>.lst []
 |_=>.dK []
noncomputable def PD:Nat->U
 |0=>.lst []
 |_=>.dct [] []
def tNw (m:Nat):TE:=λ_ H Q=>∀p,H p=L->Q (.ref p) (bc H p (Z_ m))
def Uq {c:I}:∀{m:Nat},m≠1->H c=J (Z_ m)->Dp K H A m (PD m) (.ref c) [c]
 |1,n,_=>absurd rfl n
 |0,_,h=>⟨c,[],[],rfl,rfl,rfl,h,ė _,aP.nil⟩
 |m+2,_,h=>⟨c,[],[],[],rfl,rfl,rfl,⟨.inr ⟨rfl,h⟩,Ģ,(λe he=>nomatch he)⟩,λ_=>h,ė _,rfl,rfl⟩
theorem Dp.self {c:I}{Lk:List I}:∀{m:Nat},m≠1->Dp K H A m u (.ref c) Lk->c∈Lk
 |1,n,_=>absurd rfl n
 |0,_,⟨a,_,_,e,_,e2,_⟩=>by grind
 |m+2,_,⟨a,_,_,_,e,_,e2,_⟩=>by grind
section
variable {e o f:Æ}{pos cO bW p1:Pos}{y:Str}{mk:Md}{gp:Ev->R (U×(U->U))}
def PH:PE X (.Dict [] [] pos) (tNw (m+2)):=A5
theorem PJ (i:Nat)(hN:X.N[i]? = J y:=by rfl)(hv:AN X.env.scope y:=by first|exact Or.inl rfl|exact Or.inr (Or.inl rfl)|exact Or.inr (Or.inr rfl))(hd:(y==("__debug__":Str))=M:=by decide)
  (jX:(y==("__classdict__":Str))=M:=by decide):PE X (.Name y pos) (Y8 X.K G i n n (BR i)):=(eN hN hv hd jX).to λY H Q h00=>by
 obtain⟨ZQ,A,B,u,v,Lk,h,hu,f⟩:=h00;unfold BR at f;rw[hu] at f;exact⟨v,h.at_,f A H Lk v Lk h (.root h.dp h.nod)⟩
end
end L2
namespace Hc.Ts
open PySem.W
def iT:List (List Int)->List (List Int)->Bool
 | [],[]=>M
 | [],_::_=>Z
 |_::_,[]=>M
 |x::xs,y::ys=>if x=y then iT xs ys else fN x y
theorem kG:∀a,iT a a=M
 | []=>rfl
 |x::xs=>by unfold iT;rw[h_ rfl];exact kG xs
theorem vu:∀a b c,iT a b=Z->iT b c=Z->iT a c=Z
 | [],[],_,h,_=>by cases h
 | [],_::_,[],_,h=>by cases h
 | [],_::_,_::_,_,_=>rfl
 |_::_,[],_,h,_=>by cases h
 |_::_,_::_,[],_,h=>by cases h
 |x::xs,y::ys,z::zs,h1,h2=>by
  unfold iT at h1 h2 |-;by_cases e1:x=y
  ·subst e1;rw[h_ rfl] at h1;by_cases e2:x=z
   ·subst e2;rw[h_ rfl] at h2 |-;exact vu xs ys zs h1 h2
   lia
  ·rw[hZ e1] at h1;by_cases e2:y=z
   ·lia
   ·rw[hZ e2] at h2;have h3:=mP x y z h1 h2;rw[hZ (λe=>by grind[kD])];exact h3
theorem BS:∀a b c,iT a c=Z->iT a b=Z\/iT b c=Z
 | [],[],_::_,_=>.inr rfl
 | [],_::_,_::_,_=>.inl rfl
 | [],_,[],h=>by cases h
 |_::_,_,[],h=>by cases h
 |_::_,[],_::_,_=>.inr rfl
 |x::xs,y::ys,z::zs,h=>by
  unfold iT at h |-;by_cases e:x=z
  ·subst e;rw[h_ rfl] at h;by_cases e2:x=y
   ·subst e2;rw[h_ rfl,h_ rfl];exact BS xs ys zs h
   ·rw[hZ e2,hZ (λq=>e2 q.symm)];cases c1:fN x y with
    |true=>exact .inl rfl
    |false=>
     cases c2:fN y x with
     |true=>exact .inr rfl
     |false=>exact absurd (g7 x y c1 c2) e2
  ·rw[hZ e] at h;by_cases e2:x=y
   ·lia
   ·by_cases e3:y=z
    ·lia
    simp_all[hZ,vl]
theorem vx:∀a b,iT a b=M->iT b a=M->a=b
 | [],[],_,_=>rfl
 | [],_::_,h,_=>by cases h
 |_::_,[],_,h=>by cases h
 |x::xs,y::ys,h1,h2=>by
  unfold iT at h1 h2;by_cases e:x=y
  ·subst e;rw[h_ rfl] at h1 h2;rw[vx xs ys h1 h2]
  ·rw[hZ e] at h1;rw[hZ (λq=>e q.symm)] at h2;exact absurd (g7 x y h1 h2) e
def Ec:ņ:=⟨List (List Int),iT,kG,vu,BS,vx⟩
inductive iG (h:É):List d->List (List Int)->Prop
 |nil:iG h [] []
 |cons {t:I} {aH:Array d} {ns:List Int} {vs:List d} {eW:List (List Int)}:h.IsTuple t aH->ü aH.toList ns->iG h vs eW->iG h (.ref t::vs) (ns::eW)
theorem iG.keep (k:∀b o,h.get? b=J o->h'.get? b=J o){vs:List d}(t:iG h vs eW):iG h' vs eW:=by
 induction t with
 |nil=>exact .nil
 |cons a i _ ih=>
  obtain⟨o,e,r⟩:=a;exact .cons ⟨o,k _ _ e,r⟩ i ih
theorem iG.length {vs:List d}(t:iG h vs eW):vs.length=eW.length:=by
 induction t with
 |nil=>rfl
 |cons _ _ _ ih=>rw[Ù,Ù,ih]
def jG (h:É)(a:I)(eW:List (List Int)):Prop:=∃aH,h.IsTuple a aH/\iG h aH.toList eW
theorem jG.keep (k:∀b o,h.get? b=J o->h'.get? b=J o)(t:jG h a eW):jG h' a eW:=by
 obtain⟨aH,⟨o,e,r⟩,t⟩:=t;exact⟨aH,⟨o,k _ _ e,r⟩,t.keep k⟩
end Hc.Ts
namespace L2
open Hc.Dw Hc.Ts
section
variable (O:ņ)
noncomputable def IL (x:O.α):List O.α->List O.α
 | []=>[x]
 |y::r=>if O.blt y x=Z then y::IL x r else x::y::r
def Gp (l:List O.α):List O.α:=l.foldr (IL O) []
def XH (l:List O.α):Prop:=l.Pairwise λx y=>O.blt y x=M
variable {O}
theorem p8 (x:O.α):∀l,(IL O x l).Perm (x::l)
 | []=>.refl _
 |y::r=>by
  unfold IL;split
  ·exact ((p8 x r).cons y).trans (.swap x y r)
  rfl
theorem mQ:∀l,(Gp O l).Perm l
 | []=>.refl _
 |x::l=>(p8 x _).trans ((mQ l).cons x)
theorem Gq (x:O.α):∀{l},XH O l->XH O (IL O x l)
 | [],_=>ķ _ _
 |y::r,h=>by
  obtain⟨h1,h2⟩:=Ė.mp h;unfold IL;split
  ·rename_i c;refine Ė.mpr ⟨λz hz=>?_,Gq x h2⟩;rcases Ø.mp ((p8 x r).mem_iff.mp hz) with rfl|hz
   ·exact KeyOrd.klt_asymm c
   ·exact h1 z hz
  ·rename_i c;have c:=by simpa using c
   refine Ė.mpr ⟨λz hz=>?_,h⟩;rcases Ø.mp hz with rfl|hz
   ·exact c
   ·exact ű c (h1 z hz)
theorem BU:∀l,XH O (Gp O l)
 | []=>List.Pairwise.nil
 |x::l=>Gq x (BU l)
theorem BV:∀{l m:List O.α},l.Perm m->XH O l->XH O m->l=m
 | [],m,p,_,_=>(List.nil_perm.mp p).symm
 |x::l,[],p,_,_=>absurd p.length_eq (by simp)
 |x::l,y::m,p,h1,h2=>by
  obtain⟨a1,a2⟩:=Ė.mp h1;obtain⟨b1,b2⟩:=Ė.mp h2;have e:x=y:=by
   have hx:=p.mem_iff.mp Ï;have hy:=p.mem_iff.mpr Ï;rcases Ø.mp hx with rfl|hx
   ·rfl
   ·rcases Ø.mp hy with rfl|hy
    ·rfl
    ·exact O.total x y (b1 x hx) (a1 y hy)
  subst e;rw[BV (p.cons_inv) a2 b2]
end
noncomputable def aaa:V->I
 | .ref a=>a
 |_=>0
def Ur (H:Hp)(b:I):List (List Int):=match H b with
 |some (.tup xs)=>xs.map λx=>iC H (aaa x)
 |_=>[]
def Gs (H:Hp)(b:I)(eW:List (List Int)):Prop:=∃ts:List I,H b=J (.tup (ts.map V.ref))/\ts.map (iC H)=eW/\∀t∈ts,H t=J (.tup ((iC H t).map V.int))
theorem PL (h:Gs H b eW):Ur H b=eW:=by
 obtain⟨ts,h1,h2,_⟩:=h;unfold Ur;rw[h1];dsimp only;rw[<-h2,ñ];rfl
theorem IM (I:aO X pins Y H s)(h:Gs H b eW):jG s.heap b eW:=by
 obtain⟨ts,h1,h2,h3⟩:=h;obtain⟨y1,aH,rv,it,y2⟩:=I.hok b _ h1;refine⟨aH.toArray,it,?_⟩;have e:=fO rv;subst e h2;clear rv it h1 y1 y2
 induction ts with
 |nil=>exact .nil
 |cons t ts ih=>
  obtain⟨_,its2,wU,it2,_⟩:=I.hok t _ (h3 t Ï);exact .cons it2 (by simpa using fH wU) (ih λt ht=>h3 t (Ö _ ht))
theorem PM (hc:X.calm=Z)(I:aO X pins Y H s){p:Ý}{bs:List Ý}(Vh:Pt X.K H p bs)(CW:bs.length<=Å)(Q:List Ì->À->Prop)(E:Ì->À->Prop)(hq:∀h1 tk (r_:List Ý),r_.Perm bs->(∀b o,s.heap.get? b=J o->h1.get? b=J o)->Q (r_.map Value.ref) {s with heap:=h1,toks:=tk}):Á (Ä X.prog X.w) X.A.in1 (collect (.ref p)) Q E s:=by
 rcases Vh with hs|hs|⟨ep,es,hs,rfl⟩
 ·obtain⟨aH,rv,pl,_⟩:=I.list hs;obtain⟨o,e,c,n,d⟩:=pl.isList;have e2:=fO rv;subst e2;exact Ŵ p (.inl rfl) e c d (λh1 k1=>by simpa using hq h1 s.toks bs (ľ _) k1) (by rw[å,Ê];exact CW)
 ·obtain⟨aH,rv,pl,_⟩:=I.tuple hs;obtain⟨o,e,c,n,d⟩:=pl;have e2:=fO rv;subst e2;exact Ŵ p (.inr rfl) e c d (λh1 k1=>by simpa using hq h1 s.toks bs (ľ _) k1) (by rw[å,Ê];exact CW)
 ·obtain⟨lo,ds,rd,n,at_⟩:=I.rawD hs;refine rK (A:=X.A.in1) (Xz lo) (I.ok.hd hc) rd (by rw[n];rw[Ê] at CW;exact CW) λh1 tk bX k1 ia=>?_;have e:bX.toList=(es.map (·.2.1)).map Value.ref:=by
   apply Φ;intro i;rw[Α,ñ,ç];by_cases hi:i<bX.size
   ·rw[getElem?_pos bX i hi];obtain⟨en,e1,e2⟩:=ia.2 i _ (getElem?_pos bX i hi);have SM:i<ds.size:=by rw[<-ia.1];exact hi
    rw[getElem?_pos ds i SM] at e1;cases e1;obtain⟨x,m,ek,_⟩:=at_ i SM;rw[m,e2,ek];rfl
   ·rw[getElem?_neg bX i hi,Ÿ (by rw[<-n,<-ia.1];lia)];rfl
  rw[e];exact hq h1 tk _ (ľ _) k1
def trU (eW:List (List Int)):U:=.tup (eW.map rowU)
def Ml:U->Option (List Int)
 | .tup xs=>fF xs
 |_=>L
def kH:List U->Option (List (List Int))
 | []=>J []
 |u::us=>match Ml u,kH us with
  |some ns,J eW=>J (ns::eW)
  |_,_=>L
theorem yz:∀{us:List U} {eW:List (List Int)},kH us=J eW->us=eW.map rowU
 | [],eW,h=>by cases h;rfl
 |u::us,eW,h=>by
  unfold kH at h;split at h
  ·rename_i ns r e1 e2;cases h;rw[Ç,<-yz e2];unfold Ml at e1;split at e1
   ·rw[iF e1];rfl
   ·cases e1
  ·cases h
theorem XI {ns:List (List Int)}(h:Rp K H A (trU ns) v):∃b,v=.ref b/\Gs H b ns:=by
 obtain⟨b,ys,e,q,l,r⟩:=h;obtain⟨ts,rfl,e2,z⟩:=kE r;exact⟨b,e,ts,q,e2,λt ht=>(z t ht).1⟩
end L2
namespace L2
open PySem.W Hc.Dw
def vz {A:Ð}{k v:Æ}{pos:Pos}(h:Á (Ä prog w) A (Í k env) (λkv s1=>Á (Ä prog w) A (Í v env) (λvv s2=>Á (Ä prog w) A (dictSet s.heap.objs.size kv vv) (λ_ s3=>Q (.ref s.heap.objs.size) s3) E s2) E s1) E {s with heap:=s.heap.push {cls:=.type "dict",data:=.dict #[]}}) :
  Á (Ä prog w) A (Í (.Dict [J k] [v] pos) env) Q E s:=by
 rw[arm_eval_Dict,zip_pairTrees [J k] [v] env pos rfl rfl,dictDisplay_pairs _ (by simp[pairTrees]) (by simp[pairTrees])];refine t (wpAny_standAt (t ?_));refine t (wpAny_alloc ?_);refine t (õ ?_);refine t (pairTrees_cons_walk (ý h (λkv s1 h1=>ý h1 (λvv s2 h2=>pairTrees_nil_walk ?_) λ_ _ e=>e) λ_ _ e=>e));refine õ ?_;rw[ϰ];refine t (t (t (ý h2 (λ_ s3 h3=>Â ?_) λ_ _ e=>e)));show Á _ _ _ _ _ _;exact Â (Â (Â (Â h3)))
def Us (tk tv:TE):TE:=λY H Q=>∀p,H p=L->tk Y (bc H p (.dK [])) λx H1=>tv Y H1 λy H2=>∃kk b,x=.ref b/\H2 p=J (.dK [])/\tf H2 kk b/\∀ep,Q (.ref p) (bc H2 p (DN p ep (eY [] kk b y)))
theorem Mm {pos:Pos}{k v:Æ}{tk tv:TE}(hu:X.A.units+64<Ò)(hk:PE X k tk)(hv:PE X v tv):PE X (.Dict [J k] [v] pos) (Us tk tv):=by
 intro pins s Y H Q I q;have hn:=I.hok.fresh (Ñ _);have I1:=I.laid (t':=s.toks) (λ_ _ q=>Ó _ q) (Ñ _) (t9 s.heap I.big);refine vz (c7 (hk pins _ Y _ _ I1 (q _ hn)) λu s1 ⟨x,H1,I1,rx,q1⟩=>c7 (hv pins s1 Y H1 _ I1 q1) λw2 s2 ⟨y,H2,I2,ry,q2⟩=>?_);obtain⟨kk,b,rfl,e,kb,q2⟩:=q2;cases rx;have g:dR H2 _ []:=⟨.inr ⟨rfl,e⟩,Ģ,λe he=>by cases he⟩;obtain⟨xs,rel,dd⟩:=g.of I2.hok;refine wpAny_dictSet_heap (hsz:=by rw[<-ő rel];exact ė _) (show X.A.units+20<Ò by lia) (kb.tk I2.hok) dd λh' N4 hs=>?_;obtain⟨q,ds,ep,hq,h2,h3,h4,_,h5⟩:=N4;refine⟨.ref _,_,?_,rfl,q2 ep⟩;exact nG I2 g.mut hs ⟨q,hq⟩ ⟨⟨g.lo I2.hok,q,ds,_,hq,h2,h3,um kk ry rel,h4⟩,⟨q,hq⟩,λg1 g2 ⟨l,o,ds,xs,z1,z2⟩ kp=>⟨l,o,ds,xs,kp _ z1,z2⟩⟩
def gDV (j:Nat)(n:Int):Ev->R (U×Ev):=λB=>match B[j]? with
 |some (J (.tup ks))=>if fE (.tup ks)=Z then .ok (.dct [.tup ks] [.int n],B) else .stk
 |_=>.stk
theorem Mn {pos p1 k2 p2}{y:Str}{n:Int}(hu:X.A.units+64<Ò)(hN:X.N[j]? = J y:=by rfl)(hv:AN X.env.scope y:=by first|exact Or.inl rfl|exact Or.inr (Or.inl rfl)|exact Or.inr (Or.inr rfl))(c:G.is j=M:=by rfl)(hd:(y==("__debug__":Str))=M:=by decide)(jX:(y==("__classdict__":Str))=M:=by decide):DE X G (.Dict [J (.Name y p1)] [.Constant (.int n) k2 p2] pos) M .O (gDV j n):=⟨(Mm hu (eN hN hv hd jX) yR).to λY H Q h=>by
 obtain⟨ZQ,A,B,q,f⟩:=h;unfold gDV at f;split at f
 ·rename_i ks h0;split at f
  ·rename_i kt;intro a na;obtain⟨v,h1,h2⟩:=q.slot j _ h0;rw[hZ (by lia)] at h2;obtain⟨b,rfl,kb⟩:=mx kt h2;have s1:=cY na (.dK []);refine⟨.ref b,h1,ks,b,rfl,aI,kb.to λc ys hc=>s1 _ _ hc,λep=>?_⟩;have sn:aN H (bc (bc H a (.dK [])) a (DN a ep (eY [] ks b (.int n)))):=λb o e=>by
    have nb:b≠a:=λz=>by lia
    simp_all[aG]
   exact f _ _ (q.same sn) (dP.same sn) (λ_=>⟨rfl,sn⟩) (HU.e q sn ⟨a,rfl,na,[.int n],.inr ⟨[(ks,b,.int n)],List.cons_ne_nil _ _,⟨.inl ⟨ep,aI⟩,ø.mpr ⟨Τ,Ģ⟩,λe he=>by
    rw[Ą.mp he];exact kb.to λc ys hc=>sn _ _ hc⟩,rfl,rfl⟩,(by have:Å=16777216:=rfl;rw[this];simp),aP.cons df aP.nil⟩)
  ·exact f.elim
 ·exact f.elim⟩
end L2
namespace L2
section
variable {e a b c o f:Æ}{rest:List Ë}{pos cO bW p1 lp:Pos}{y:Str}{m1 mk:Md}{g1:Ev->R (U×Ev)}{gp:Ev->R (U×(U->U))}{s1 s2:Ev->SR}
theorem BW (ha:DD X G i n st s1)(hb:Uo X G i n rest s2):Uo X G i n (st::rest) (aJ s1 s2):=⟨(nC ha.un hb.un).to λD Y H h00=>by
 obtain⟨ZQ,A,B,u,v,Lk,h,hu,f⟩:=h00;refine⟨ZQ,A,B,u,v,Lk,h,hu,?_⟩;unfold aJ at f;cases e:s1 B with
 |nx B1=>rw[e] at f;exact λA1 Y1 H1 u1 v1 L1 h1 Az=>⟨ZQ,A1,B1,u1,v1,L1,h1,Az,f⟩
 |rt=>rw[e] at f;exact f
 |bk=>rw[e] at f;exact f
 |ct=>rw[e] at f;exact f
 |exc=>rw[e] at f;exact f
 |stk=>rw[e] at f;exact f⟩
def Gu (i:Nat)(sg:U->Ev->R Ev)(g:Ev->R (U×Ev)):Ev->SR:=λB=>SR.of (g (B.set i L)) λx=>SR.of (sg x.1 (B.set i L)) λB2=>.nx (B2.set i (B[i]?.getD L))
theorem Ut (h:DE X G e M m1 g1)(hg:DG X G tg sg)(hn:m1≠.P:=by decide)(ci:G.is i=Z:=by rfl)(hs:swapsWithSole [tg] e pos.line X.env=pure M:=by rfl)(hw:swappedStores [tg] e X.env=pure L:=by rfl)(h1:(Č [tg] X.env).map (·.2)=[assign tg X.env]:=by rfl):DD X G i n (.Assign [tg] e pos) (Gu i sg g1):=⟨(C2 h.un hg.un hs hw h1).to λD Y H h00=>by
 obtain⟨ZQ,A,B,u,v,Lk,hd,hu,f⟩:=h00;obtain⟨⟨x,B1⟩,e1,f⟩:=f.of;obtain⟨B2,e2,f⟩:=f.of;refine⟨ZQ.hx H Lk,A,B.set i L,hd.rel,?_⟩;rw[e1];intro vy H1 q1 x1 s1 vm;have sm:=(s1 rfl).2;have h2:=hd.same sm;refine⟨ZQ.hx H1 Lk,A,B.set i L,x,h2.rel,vm.rp hn,?_⟩;rw[e2];intro Y2 q2 keep;have CY:Y2[i]? = J (J v):=by rw[keep i ci];exact h2.at_
 have il:i<B2.length:=by
  rw[q2.len];exact (é.mp CY).1
 have YM:(B2.set i (J u))[i]? = J (J u):=ŉ il;rw[hu] at f;exact f A Y2 H1 u v Lk ⟨CY,h2.nod,h2.fr,h2.dp,by rw[List.set_set];exact q2.drop i⟩ YM⟩
def Mo (i:Nat)(gp:Ev->R (U×(U->U)))(gk:Ev->R (U×Ev)):Ev->R (U×(U->U)):=λB=>(gp B).bind λx=>(gk (B.set i L)).bind λk=>match x.1 with
 | .dct ks us=>if fE k.1=Z then (match bR ks us k.1 with
  |some z=>.ok (z,λw=>x.2 (.dct (cq ks k.1) (bS ks us k.1 w)))
  |none=>.stk) else .stk
 |_=>.stk
theorem Uu (hu:X.A.units+64<Ò)(ho:PE X o (Y8 X.K G i n (m+2) gp))(he:DE X G e M mk gk)(hn:mk≠.P:=by decide)(hs:HH e:=by intro _ _;rfl):PE X (.Subscript o e pos) (Y8 X.K G i n m (Mo i gp gk)):=(FJ hu ho he.un hs).to λY H Q h00=>by
 obtain⟨ZQ,A,B,u,v,Lk,hd,hu0,f⟩:=h00;unfold Mo at f;cases e1:gp B with
 |stk=>rw[e1] at f;exact f.elim
 |exc=>rw[e1] at f;exact f.elim
 |ok x=>
  obtain⟨u1,F⟩:=x;rw[e1] at f;dsimp only[R.bind] at f;cases e2:gk _ with
  |stk=>rw[e2] at f;exact f.elim
  |exc=>rw[e2] at f;exact f.elim
  |ok k=>
   obtain⟨k,Bk⟩:=k;rw[e2] at f;refine⟨ZQ,A,B,u,v,Lk,hd,hu0,?_⟩;rw[e1];intro A1 H1 L1 v' L' QN VS;obtain⟨a,us,es,Mqq,r1,r2,r3,d,z,l,al⟩:=id VS.dp;subst r1 r2 r3;dsimp only at f;refine⟨ZQ.hx H1 L1,A1,B.set i L,QN.rel,?_⟩;rw[e2];intro vk H2 q2 x2 s2 yP;have Oa:=(s2 rfl).2;by_cases CZ:fE k=Z;rotate_left
   ·rw[hZ CZ] at f;exact f.elim
   rw[h_ CZ] at f;cases k<;>first|(cases CZ)|skip
   rename_i kk;obtain⟨b,rfl,kb⟩:=mx CZ (yP.rp hn);have Oo:=kF QN.rel.mu Oa;have YN:=QN.kept Oa;have YO:=VS.keep Oo YN (Gk Oa);have ka:=YN a (VS.sub a Ï);have d3:=d.re ka Oo.tup;have al3:=al.imp λu v L' s (p:Dp X.K H1 A1 m u v L')=>p.re Oo λb hb=>YN b (VS.sub b (Ö _ (s b hb)));cases hx:f9 es kk with
   |none=>
    rw[oF λz=>vq hx (oE.mp z)] at f;exact f.elim
   |some x=>
    obtain⟨u',L2,y1,y2,y3⟩:=YO.child d3 (by rw[ka];exact z) l al3 hx;rw[y1] at f;refine⟨a,x,rfl,.inr ⟨es,kk,b,d3,rfl,kb,hx.symm⟩,f A1 _ L1 x L2 ?_ y3⟩;show lE _ _ _ _ _ _ _ _ _ (F _) _ _;rw[y2];exact QN.same Oa
def Mp (i:Nat)(gk:Ev->R (U×Ev))(s1 s2:Ev->SR):Ev->SR:=λB=>SR.of (gk (B.set i L)) λk=>match B[i]? with
 |some (J (.dct ks us))=>if fE k.1=Z then (if (bR ks us k.1).isSome=Z then s2 B else s1 B) else .stk
 |_=>.stk
theorem Uv {sa sb:List Ë}(hu:X.A.units+64<Ò)(he:DE X G e M mk gk)(ha:Uo X G i (n+2) sa s1)(hb:Uo X G i (n+2) sb s2)(hn:mk≠.P:=by decide)(hN:X.N[i]? = J y:=by rfl)(hv:AN X.env.scope y:=by first|exact Or.inl rfl|exact Or.inr (Or.inl rfl)|exact Or.inr (Or.inr rfl))(hd:(y==("__debug__":Str))=M:=by decide)
  (jX:(y==("__classdict__":Str))=M:=by decide) (hm:Ŗ .NotIn (.Name y p1)=M:=by with_unfolding_all rfl):DD X G i (n+2) (.If (.Compare e [.NotIn] [.Name y p1] bW) sa sb pos) (Mp i gk s1 s2):=⟨(JO (Fj (ya hu) he.un (eN hN hv hd jX) hm) ha.un hb.un).to λD Y H h00=>by
 obtain⟨ZQ,A,B,u,v,Lk,hd,hu0,f⟩:=h00;obtain⟨⟨k,Bk⟩,e2,f⟩:=f.of;rw[hu0] at f;obtain⟨a,us,es,Mqq,r1,r2,r3,d,z,l,al⟩:=id hd.dp;subst r1 r2 r3;dsimp only at f;by_cases CZ:fE k=Z;rotate_left
 ·rw[hZ CZ] at f;exact f.elim
 rw[h_ CZ] at f;refine⟨ZQ.hx H _,A,B.set i L,hd.rel,?_⟩;rw[e2];intro vk H2 q2 x2 s2 yP;have Oa:=(s2 rfl).2;have h2:=hd.same Oa;cases k<;>first|(cases CZ)|skip
 rename_i kk;obtain⟨b,rfl,kb⟩:=mx CZ (yP.rp hn);have Oo:=kF hd.rel.mu Oa;have ka:=hd.kept Oa a Ï;have d3:=d.re ka Oo.tup;refine⟨.ref a,h2.at_,a,f9 es kk,rfl,.inr ⟨es,kk,b,d3,rfl,kb,rfl⟩,_,rfl,?_⟩;cases hx:f9 es kk with
 |none=>
  rw[oF λz=>vq hx (oE.mp z)] at f;exact⟨ZQ,A,B,_,_,_,h2,hu0,f⟩
 |some x=>
  obtain⟨_,nM⟩:=ø.mp hd.nod;obtain⟨u',_,y1,_⟩:=al.find d.nd nM hx;rw[y1] at f;exact⟨ZQ,A,B,_,_,_,h2,hu0,f⟩⟩
def BX (i m:Nat)(gk:Ev->R (U×Ev)):Ev->SR:=λB=>SR.of (gk (B.set i L)) λk=>match B[i]? with
 |some (J (.dct ks us))=>if fE k.1=Z/\us.length<Å then (match bR ks us k.1 with
  |none=>.nx (B.set i (J (.dct (cq ks k.1) (bS ks us k.1 (PD m)))))
  |some _=>.stk) else .stk
 |_=>.stk
theorem PN (hu:X.A.units+64<Ò)(he:DE X G e M mk gk)(hf:PE X f (tNw m))(hm1:m≠1:=by decide)(hn:mk≠.P:=by decide)(hN:X.N[i]? = J y:=by rfl)(hv:AN X.env.scope y:=by first|exact Or.inl rfl|exact Or.inr (Or.inl rfl)|exact Or.inr (Or.inr rfl))(hd:(y==("__debug__":Str))=M:=by decide)
  (jX:(y==("__classdict__":Str))=M:=by decide) (hs:Ē f (J (.Subscript (.Name y p1) e pos')) pos.line X.env=pure M:=by rfl):DD X G i (m+2) (.Assign [.Subscript (.Name y p1) e pos'] f pos) (BX i m gk):=⟨(zg hu (eN hN hv hd jX) he.un hf hs).to λD Y H h00=>by
 obtain⟨ZQ,A,B,u,v,Lk,hd,hu0,f⟩:=h00;obtain⟨⟨k,Bk⟩,e2,f⟩:=f.of;rw[hu0] at f;obtain⟨a,us,es,Mqq,r1,r2,r3,d,z,l,al⟩:=id hd.dp;subst r1 r2 r3;dsimp only at f;by_cases hk:fE k=Z/\us.length<Å;rotate_left
 ·rw[hZ hk] at f;exact f.elim
 rw[h_ hk] at f;intro c nc;have s3:aN H (bc H c (Z_ m)):=cY nc _;have h1:=hd.same s3;refine⟨.ref a,h1.at_,ZQ.hx _ _,A,B.set i L,h1.rel,?_⟩;rw[e2];intro vk H2 q2 x2 s2 yP;have Oa:=(s2 rfl).2;have Zl:=s3.trans Oa;have CZ:=hk.1;cases k<;>first|(cases CZ)|skip
 rename_i kk;obtain⟨b,rfl,kb⟩:=mx CZ (yP.rp hn);have Oo:=kF hd.rel.mu Zl;have YN:=hd.kept Zl;have ka:=YN a Ï;have d3:=d.re ka Oo.tup;have hl:es.length=us.length:=by rw[al.length,Ê]
 cases hx:f9 es kk with
 |some x=>
  obtain⟨_,nM⟩:=ø.mp hd.nod;obtain⟨u',_,y1,_⟩:=al.find d.nd nM hx;rw[y1] at f;exact f.elim
 |none=>
  refine⟨a,rfl,.inr ⟨es,kk,b,d3,rfl,kb,by lia,λep=>?_⟩⟩;obtain⟨L4,L2,y1,y3,z1,z2,g⟩:=At.new (At.root hd.dp hd.nod) d hk.2 al hd.rel.mu (λb hb=>hd.inA hb) Zl nc kb hx rfl (λH' e _=>Uq hm1 (by rw[e];exact Oa c _ aI));rw[y1] at f;have il:=(é.mp hu0).1;refine f _ Y _ _ _ L4 (hd.put g (λb z=>.inl z) (λb nb ne=>?_) y3.nod z1 (λb hb=>?_) (λb hb=>?_) (λb z=>?_) y3.all (List.set_set _)) (ŉ il)
  ·have:b≠a:=λq=>nb (by rw[q];exact z1 a Ï);show (if b=a then _ else _)=_;rw[hZ this];cases q:H b with
   |none=>lia
   |some o=>exact Zl b o q
  ·grind
  ·exact (z2 b hb).imp (λy=>hd.inA y) id
  ·rcases z with z|z
   ·exact .inl z
   ·rw[z];exact .inr (y3.sub c (y3.dp.self hm1))⟩
end
end L2
namespace L2
theorem R7 {K:È}{H:Hp}{A:I->Prop}:∀{us:List U} {vs:List V} {Mqq:List I},gq (Dp K H A 1) us vs Mqq->Mqq=[]/\aP K H A us vs
 | [],_,_,⟨e1,e2⟩=>⟨e2,by subst e1;exact aP.nil⟩
 |u::us,_,_,⟨v,r,L1,L2,e1,e2,p,q⟩=>by
  obtain⟨a,b⟩:=R7 q;subst e1 e2 a;exact⟨by rw[p.1];rfl,aP.cons p.2 b⟩
theorem Mq {K:È}{H:Hp}{A:I->Prop}:∀{us:List U} {vs:List V},aP K H A us vs->gq (Dp K H A 1) us vs []
 | [],_,h=>by exact⟨h,rfl⟩
 |u::us,_,h=>by
  obtain⟨x,r,e,p,q⟩:=h;exact⟨x,r,[],[],e,rfl,⟨rfl,p⟩,Mq q⟩
def Gv (i:Nat)(gp:Ev->R (U×(U->U)))(gk gv:Ev->R (U×Ev)):Ev->SR:=λB=>SR.of (gv (B.set i L)) λy=>SR.of (gp B) λx=>SR.of (gk (B.set i L)) λk=>match y.1,x.1 with
 | .int w,.dct ks us=>if fE k.1=Z/\us.length<Å then .nx (B.set i (J (x.2 (.dct (cq ks k.1) (bS ks us k.1 (.int w)))))) else .stk
 |_,_=>.stk
section
variable {e o val:Æ}{pos:Pos}{mk mv:Md}{gv:Ev->R (U×Ev)}{gp:Ev->R (U×(U->U))}
theorem PQ (hu:X.A.units+64<Ò)(ho:PE X o (Y8 X.K G i n 3 gp))(he:DE X G e M mk gk)(hv:DE X G val M mv gv)(hn:mk≠.P:=by decide)(SA:mv≠.P:=by decide)(hs:Ē val (J (.Subscript o e pos')) pos.line X.env=pure M:=by rfl):DD X G i n (.Assign [.Subscript o e pos'] val pos) (Gv i gp gk gv):=⟨(zg hu ho he.un hv.un hs).to λD Y H h00=>by
 obtain⟨ZQ,A,B,u,v,Lk,hd,hu0,f⟩:=h00;obtain⟨⟨y,By⟩,eV,f⟩:=f.of;obtain⟨⟨u1,F⟩,eP,f⟩:=f.of;obtain⟨⟨k,Bk⟩,eK,f⟩:=f.of;cases y with
 |int w=>
  refine⟨ZQ.hx H Lk,A,B.set i L,hd.rel,?_⟩;rw[eV];intro vv H1 q1 x1 s1 qN;have sm1:=(s1 rfl).2;have QN:=hd.same sm1;have rv:=by have:=qN.rp SA;exact this
  subst rv;refine⟨ZQ,A,B,u,v,Lk,QN,hu0,?_⟩;rw[eP];intro A1 H2 L1 v' L' C0 CY;obtain⟨a,us,es,Mqq,r1,r2,r3,d,z,l,al⟩:=id CY.dp;subst r1 r2 r3;obtain⟨rM,rr⟩:=R7 al;subst rM;dsimp only at f;by_cases hk:fE k=Z/\us.length<Å;rotate_left
  ·rw[hZ hk] at f;exact f.elim
  rw[h_ hk] at f;refine⟨ZQ.hx H2 L1,A1,B.set i L,C0.rel,?_⟩;rw[eK];intro vk H3 q3 x3 s3 vm3;have CP:=(s3 rfl).2;have CZ:=hk.1;cases k<;>first|(cases CZ)|skip
  rename_i kk;obtain⟨b,rfl,kb⟩:=mx CZ (vm3.rp hn);have Oo:=kF C0.rel.mu CP;have YO:=CY.keep Oo (C0.kept CP) (Gk CP);have VT:=C0.same CP;have d3:=d.re (C0.kept CP a (CY.sub a Ï)) Oo.tup;have hl:es.length=us.length:=by rw[rr.length,Ê]
  refine⟨a,rfl,.inr ⟨es,kk,b,d3,rfl,kb,by lia,λep=>?_⟩⟩;have aA:=VT.inA (YO.sub a Ï);have hb:∀b',b'≠a->bc H3 a (DN a ep (eY es kk b (.int w))) b'=H3 b':=λb' nb=>by unfold bc;rw[hZ nb]
  have g:CS A1 A1 H3 (bc H3 a _):=⟨VT.rel.mu,λb' o nb e=>by rw[hb b' (λz=>nb (z▸aA))];exact e,λb' z=>.inl z⟩;have rr3:aP X.K _ A1 _ ((eY es kk b (.int w)).map (·.2.2)):=(p5 (show Rp X.K H3 A1 (.int w) (.int w) by rfl) (rr.same CP)).re g.mu g.ex g.nw;obtain⟨L4,d4,n4,z1,z3,z2⟩:=YO.put _ A1 _ [a] g (λb' tW nb=>hb b' λz=>nb (by rw[z];exact Ï))
   ⟨a,_,eY es kk b (.int w),[],rfl,by rw[p0],rfl,⟨.inl ⟨ep,aI⟩,zh d3.nd,uJ (λe he=>(d3.key e he).to g.tup) (kb.to g.tup)⟩,(λe=>absurd e zi),by
    rw[rr3.length,Ê];unfold eY;split
    ·rw[Ê];lia
    ·rw[ã];show _+1<=_;lia,Mq rr3⟩ (ķ _ _) (λb' hb=>hb) (λb' hb=>.inl hb)
  have il:i<B.length:=by
   grind
  refine f A1 Y _ _ v L4 (VT.put g (λb' z=>z) (λb' nb ne=>hb b' λz=>nb (z3 b' (by rw[z];exact Ï))) n4 z1 (λb' tW=>?_) (λb' tW=>?_) (λb' z=>.inl z) d4 (List.set_set _)) (ŉ il)
  ·rcases z2 b' tW with x|x
   ·rw[Ą] at x;rw[x];exact .inl (YO.sub a Ï)
   ·exact .inl x
  ·rcases z2 b' tW with x|x
   ·grind
   ·exact VT.inA x
 |_=>exact f.elim⟩
end
end L2
namespace Hc.Zp
abbrev eh2 (l:Bool)(h:É)(a:I):É:=(VE l h a).push {cls:=.type "enumerate",data:=.fields #[.none,.bool M,.ref h.objs.size,rawInt 0,.none,.none]}
theorem IP (l:Bool)(a:I)(xs:Array Ì):Meets (Builtin.«enumerate.__new__» ⟨[.type "enumerate",.ref a],[]⟩) (λ_ R s=>dW l s.heap a xs/\R (.ok (.ret (.ref (VE l s.heap a).objs.size))) {s with heap:=eh2 l s.heap a}):=
 .of_wp λprog w A R s h=>by
  obtain⟨hp,g,d,tk,os⟩:=s;obtain⟨g1,h⟩:=h;have sb:=sub_enumerate;have q1:=g1;have:∃o,hp.get? a=J o:=by
   cases l with
   |true=>obtain⟨o,e,_⟩:=g1;exact⟨o,e⟩
   |false=>obtain⟨o,e,_⟩:=g1;exact⟨o,e⟩
  wp_walk using AutoSeq1.wpAny_loadPart' ho;refine wpAny_stack_any λst=>Â ?_;split
  ·rename_i c _ _ _ _ _;cases (c==Value.type _)
   ·wp_walk using AutoSeq1.wpAny_loadPart' ho,oh q1;exact⟨_,rfl,h⟩
   ·wp_walk using AutoSeq1.wpAny_loadPart' ho,oh q1;exact⟨_,rfl,h⟩
  ·wp_walk using AutoSeq1.wpAny_loadPart' ho,oh q1;exact⟨_,rfl,h⟩
section
variable {A:Ð}
theorem Ed {e:I}{xs:Array Ì}{x pH:Ì}(he:IsEnum s.heap e it i pH)(hi:cP l s.heap it a i)(ha:dW l s.heap a xs)(hx:xs[i]? = J x)(wV:e≠it)(hQ:∀h',IsEnumOut h' e it ((i:Int)+1) x s.heap.objs.size->cP l h' it a (i+1)->ë h' s.heap.objs.size (.int i s.toks) x->(∀b o,b≠e->b≠it->s.heap.get? b=J o->h'.get? b=J o)->Q (.ref s.heap.objs.size) {s with heap:=h',toks:=s.toks+1}) :
  Á (Ä prog w) A (Builtin.«enumerate.__next__» ⟨[.ref e],[]⟩) (λfin s'=>∃v,fin=.done (.ret v)/\Q v s') E s:=by
 obtain⟨hp,g,d,tk,os⟩:=s;show Á _ _ (field (.ref e) 2 >>= _) _ _ _;refine t (ï he rfl rfl (t (fM hi ha hx λw1 n1 b1=>?_)));have e1:=(b1.2 e wV).trans he;refine t (ï e1 rfl rfl ?_);refine t (ï e1 rfl rfl ?_);refine t (wpAny_mkInt ?_);refine t (đ e1 (by simp) λw2 e2 b2=>?_);refine t (đ e2 (by simp) λw3 e3 b3=>?_);refine t (wpAny_newTuple ?_);have sz:w3.objs.size=hp.objs.size:=by rw[b3.1,b2.1,b1.1]
 have le:=Ô he;have t4:ë _ w3.objs.size (.int i tk) x:=Ü _ rfl;have e4:IsEnum (w3.push {cls:=.type "tuple",data:=.seq #[.int i tk,x]}) e it _ pH:=Ó _ e3;have k4:∀b o,b≠e->w1.get? b=J o->(w3.push {cls:=.type "tuple",data:=.seq #[.int i tk,x]}).get? b=J o:=λb o c y=>Ó _ (b3.extBut b o c (b2.extBut b o c y));generalize w3.push _=w4 at t4 e4 k4;rw[sz] at t4 |-;refine t ?_;refine t (ï e4 rfl rfl (Â ?_));refine t (İ (t (ï e4 rfl (x:=pH) rfl (t (đ e4 (by simp) λw5 e5 b5=>?_)))));refine t ?_;refine t (đ e5 (by simp) λw6 e6 b6=>?_);refine đ e6 (by simp) λw7 e7 b7=>?_;have up:=λb o c y=>b7.extBut b o c (b6.extBut b o c (b5.extBut b o c y));exact t (wpAny_letGo (Â ⟨_,rfl,hQ w7 e7 (n1.at λo y=>up _ o wV.symm (k4 _ o wV.symm y)) (up _ _ (ò le) t4) λb o c1 c2 y=>up b o c1 (k4 b o c1 (b1.extBut b o c2 y))⟩))
theorem Ee {e:I}{xs:Array d}{x pH:d}{Q:Option d->À->Prop}(he:IsEnum s.heap e it i pH)(hi:cP l s.heap it a i)(ha:dW l s.heap a xs)(hx:xs[i]? = J x)(wV:e≠it)(hQ:∀h',IsEnumOut h' e it ((i:Int)+1) x s.heap.objs.size->cP l h' it a (i+1)->ë h' s.heap.objs.size (.int i s.toks) x->(∀b o,b≠e->b≠it->s.heap.get? b=J o->h'.get? b=J o)->Q (J (.ref s.heap.objs.size)) {s with heap:=h',toks:=s.toks+1}) :
  Á (Ä prog w) A (pyNext (.ref e)) Q E s:=by
 have hT:s.TypeIs (.ref e) _:=⟨_,he,rfl⟩;exact t (Ě (ę hT F.slot_enumerate_next (û F.slot_enumerate_next hT F.entry_enumerate_next (Ed he hi ha hx wV λh' c1 c2 c3 c4=>Â (hQ h' c1 c2 c3 c4)) (F.args_enumerate_next_1 _))))
theorem Ef {e:I}{xs:Array d}{pH:d}{Q:Option d->À->Prop}(hh:A.handled=L)(he:IsEnum s.heap e it i pH)(hi:cP l s.heap it a i)(ha:dW l s.heap a xs)(hx:xs[i]? = L)(hQ:∀h',Heap.ExtBut it s.heap h'->Q L {s with heap:=h'}):Á (Ä prog w) A (pyNext (.ref e)) Q E s:=by
 have hT:s.TypeIs (.ref e) _:=⟨_,he,rfl⟩;refine t (Ě (ę hT F.slot_enumerate_next (û F.slot_enumerate_next hT F.entry_enumerate_next ?_ (F.args_enumerate_next_1 _))));show Á _ _ (field (.ref e) 2 >>= _) _ _ _;refine t (ï he rfl rfl (t (kA hh hi ha hx λh' x b1 ⟨o,ho,hc⟩=>?_)));exact t (ň ⟨o,ho,hc⟩ ť (Â (hQ _ b1)))
theorem Eg {xs:Array d}(ha:dW l s.heap a xs)(h:∀h',IsEnum h' (s.heap.objs.size+1) s.heap.objs.size 0 .none->cP l h' s.heap.objs.size a 0->(∀b o,s.heap.get? b=J o->h'.get? b=J o)->Q (.ref (s.heap.objs.size+1)) {s with heap:=h'}) :
  Á (Ä prog w) A (call (.type "enumerate") [.ref a]) Q E s:=by
 refine callType_new F.called_enumerate (by decide) (F.typeCall_enumerate_1 _) (F.newCall_enumerate_1 _) (λobj=>F.args_object_init_2 obj _) F.entry_enumerate_new (IP l a xs) ⟨ha,?_⟩;have z1:(VE l s.heap a).objs.size=s.heap.objs.size+1:=Ī ..;have e1:(eh2 l s.heap a).get? _=J _:=Ü _ rfl;rw[z1] at e1 |-;refine⟨⟨_,e1,rfl⟩,h _ e1 ?_ λb o x=>Ó _ (Ó _ x)⟩;have e2:(eh2 l s.heap a).get? _=J _:=Ó _ (Ü _ rfl);cases l with
 |true=>exact⟨_,e2,rfl,rfl⟩
 |false=>exact⟨_,e2,rfl,rfl⟩
end
end Hc.Zp
namespace L2
open Hc.Zp
def Ite (K:È)(l:Bool)(a:I):It:=
  ⟨λi H=>∃xs x,zj l K H a xs/\xs[i]? = J x,
   λi H v H'=>∃T x,v=.ref T/\H T=L/\H'=bc H T (.tup [.int i,x])/\∀xs,zj l K H a xs->xs[i]? = J x,
   λi H=>∃xs,zj l K H a xs/\xs.length<=i⟩
theorem IQ {z:Ý}(D:z≠it) :
  yT P w K (.Tuple elts kt tp) (Ite K l a) [z,it] z (λi h=>(∃pH,IsEnum h z it i pH)/\cP l h it a i) where
 mem:=by simp
 obj:=λi h ⟨⟨pH,hz⟩,h1⟩ b hb=>by
  obtain⟨o1,e1,d1,_⟩:=h1.obj;grind
 keep:=λi h h' ⟨⟨pH,hz⟩,h1⟩ k=>⟨⟨pH,k z (by simp) _ hz⟩,h1.at λo e=>k it (by simp) o e⟩
 item:=by
  intro X hP hw hK hc i pins s Y H E I hf st hg;subst hP hw hK;obtain⟨⟨pH,hz⟩,h1⟩:=st;obtain⟨xs,x,q1,hx⟩:=hg;obtain⟨is1,v1,g1⟩:=I.sq q1;obtain⟨u1,Az,r1⟩:=v1.get hx;obtain⟨o1,e1,_,_⟩:=h1.obj;have lz:=Ô hz;have l1:=Ô e1;refine Ee hz h1 g1 (by simpa using Az) D λh' c1 c3 c5 kp=>⟨_,rfl,?_⟩;refine wpAny_letOwnedTupleGo_enum c1 λQK z2 sb=>?_;have YG:=sb.extBut _ _ (ò lz) c5;have kp2:∀b o,b∉[z,it]->s.heap.get? b=J o->QK.get? b=J o:=λb o hb e=>by
   simp only[Ø,ϑ,or_false,not_or] at hb;exact sb.extBut _ _ hb.1 (kp b o hb.1 hb.2 e)
  have I2:aO X pins Y (bc H _ (.tup [.int i,x])) {s with heap:=QK,toks:=s.toks+1}:=I.turnNew hf kp2 (Ñ _) ⟨by rw[Ĕ];simp,[.int i s.toks,u1],.cons ⟨_,rfl⟩ (.cons r1 .nil),⟨_,YG,rfl,_,rfl⟩,_,YG⟩;refine⟨.ref _,_,I2,rfl,⟨_,x,rfl,I.hok.fresh (Ñ _),rfl,λzs hq=>by rw[I.sq_inj hq q1];exact hx⟩,⟨⟨_,z2⟩,c3.at λo e=>sb.extBut _ _ D.symm e⟩,λb hb=>?_⟩;have hn:b≠s.heap.objs.size:=by
   grind
  rw[aG hn];exact (hf b hb).1
 done:=by
  intro X hP hw hK hc i pins s Y H E I hf st hg;subst hP hw hK;obtain⟨⟨pH,hz⟩,h1⟩:=st;obtain⟨xs,q1,he⟩:=hg;obtain⟨is1,v1,g1⟩:=I.sq q1;have n1:=v1.length;refine Ef (I.ok.hd hc) hz h1 g1 (by simp;lia) λh' kp=>⟨rfl,I.turneds hf λb o hb e=>?_⟩;simp only[Ø,ϑ,or_false,not_or] at hb;exact kp b o hb.2 e
 self:=λ_ _ _ _ _ ⟨⟨_,z⟩,_⟩ h=>wpAny_pyIter_enum z h
section
variable {p pos:Pos}{a:Æ}
def zA:Ĉ "enumerate"=J (.type "enumerate"):=by rfl
def XJ (K:È)(ta:TA):TI:=λY H R=>ta Y H λvs H1=>∃l a xs,vs=[.ref a]/\zj l K H1 a xs/\R (Ite K l a) H1
theorem PR (hg:Gl X "enumerate")(hm:X.mg "enumerate"=L)(ha:PA X [a] ta)(hs:Î [a] X.env=[(M,Í a X.env)]:=by rfl) :
  PI X (.Tuple elts kt tp) (.Call (.Name "enumerate" p) [a] [] pos) (XJ X.K ta):=by
 intro pins s Y H R I h;refine Call_ (kg I hg hm zA (š (c7 (ha pos pins s Y H _ I h) λus s1 ⟨vs,H1,I1,r1,q1⟩=>?_) (by rw[hs];rfl) (by rfl)));obtain⟨l,a1,xs,rfl,g1,q⟩:=q1;cases r1 with
 |cons r rr=>
  cases rr;cases r;obtain⟨is1,v1,m1⟩:=I1.sq g1;refine Eg m1 λh' z1 z2 kp=>wpAny_pyIter_enum z1 ?_;refine⟨_,[s1.heap.objs.size+1,s1.heap.objs.size],_,_,H1,rfl,I1.kept λb o e=>kp b o e,IQ (Nat.succ_ne_self _),⟨⟨_,z1⟩,z2⟩,λb hb=>?_,q⟩;have hb:s1.heap.objs.size<=b:=by
   grind
  exact I1.fpOk hb (I1.hok.fresh hb)
end
noncomputable def rO:Nat->List U->List U
 |_,[]=>[]
 |i,u::us=>.tup [.int i,u]::rO (i+1) us
theorem p9:∀(us:List U) (i:Nat),(rO i us).length=us.length
 | [],_=>rfl
 |_::us,i=>congrArg (·+1) (p9 us (i+1))
theorem yA:∀(us:List U) (i k:Nat) (w:U),(rO i us)[k]? = J w->∃u,us[k]? = J u/\w=.tup [.int (i+k:Nat),u]
 | [],_,_,_,h=>by cases h
 |u::us,i,0,w,h=>⟨u,rfl,by cases h;rfl⟩
 |u::us,i,k+1,w,h=>by
  obtain⟨u',h1,h2⟩:=yA us (i+1) k w h;exact⟨u',h1,by rw[h2,show i+1+k=i+(k+1) by lia]⟩
def Gw (ga:Ev->R (List U×Ev)):Ev->R (List U×Ev):=λB=>(ga B).bind λx=>match x.1 with
 | [u]=>match Iu u with
  |some us=>.ok (rO 0 us,x.2)
  |_=>.stk
 |_=>.stk
section
variable {p1 pos:Pos}{a:Æ}{b1:Bool}
theorem PU (ha:DA X G [a] b1 M ga)(hm:X.mg "enumerate"=L)(hg:Gl X "enumerate":=by rfl)(hs:Î [a] X.env=[(M,Í a X.env)]:=by rfl) :
  DI X G (.Tuple elts kt tp) (.Call (.Name "enumerate" p1) [a] [] pos) b1 M (Gw ga):=⟨(PR hg hm ha.un hs).to λY H RR h00=>by
 obtain⟨ZQ,A,B,q,f⟩:=h00;unfold Gw at f;cases e1:ga B with
 |stk=>rw[e1] at f;exact f.elim
 |exc=>rw[e1] at f;exact f.elim
 |ok y=>
  obtain⟨us,B1⟩:=y;rw[e1] at f;dsimp only[L2.R.bind] at f;refine⟨ZQ,A,B,q,?_⟩;rw[e1];intro vs H1 q1 x1 s1 vm;split at f
  ·rename_i Om B' e2;split at e2
   ·split at e2
    ·rename_i as ea;cases e2;have r:=vm.rps;obtain⟨v,vr,rfl,r1,r2⟩:=r;subst r2;obtain⟨l1,a1,xs,rfl,n1,z1,k1,AB⟩:=uK ea r1;refine⟨l1,a1,xs,rfl,k1,f _ H1 q1 x1 s1 ⟨by rw[p9];exact n1,λH2 A' hx CN=>?_⟩⟩;have Vn:=AB H2 hx q1.mu;have w1:=z1.re q1.mu hx CN;refine⟨λi u hu=>?_,⟨xs,Vn,by rw[p9,<-z1.length];exact Ñ _⟩⟩;obtain⟨ua,hA,rfl⟩:=yA as 0 i u hu;rw[ż];obtain⟨x,QO,px⟩:=w1.get hA;refine⟨⟨xs,x,Vn,QO⟩,λx' H' yl=>?_⟩;obtain⟨T,x2,rfl,hT,rfl,g1⟩:=yl;have ex:x2=x:=by have:=g1 xs Vn;rw[QO] at this;cases this;rfl
     subst ex;have sm:=cY hT (.tup [.int i,x2]);refine⟨sm,?_⟩;exact⟨T,_,rfl,aI,by have:Å=16777216:=rfl;rw[this];simp,aP.cons df (aP.cons (px.same sm) aP.nil)⟩
    ·cases e2
   ·cases e2
  lia⟩
end
end L2
namespace Hc.Zp
open PySem.W
abbrev p_ (h:É)(z TI TQ:I)(v:d)(f:Bool):Prop:=h.get? z=J {cls:=.type "zip",dict:=L,data:=.fields #[v,.bool f,.bool M,.ref TI,.ref TQ],slots:=#[]}
section
variable {A:Ð}
theorem Gx {z TI:I}{f:Bool}{oa:Obj}{Q:Bool->À->Prop}(hz:p_ s.heap z TI TQ (rawInt a) f)(ha:s.heap.get? a=J oa)(hQ:∀h',p_ h' z TI TQ (rawInt a) Z->Ļ z s.heap h'->Q M {s with heap:=h'}):Á (Ä prog w) A (Builtin.SmallTypes.ownedTupleIsFree (.ref z)) Q E s:=by
 refine t (ï hz rfl rfl ?_);show Á _ _ (loadIfAlive _ >>= _) _ _ _;refine t (kdx_alive ha ?_);refine t (ï hz rfl rfl ?_);cases f with
 |true=>
  exact Â (hQ s.heap hz (Heap.SameBut.refl _ _))
 |false=>
  exact t (đ hz (by simp) λh₃ he₃ hs₃=>Â (hQ h₃ he₃ hs₃))
def IS {l1 l2:Bool}{z TI:I}{f:Bool}{oa:Obj}{k:Nat}{xs:Array d}{x y:d}(D:ZipApart z TI TQ i1 i2 a1 a2)(hz:p_ s.heap z TI TQ (rawInt a) f)(ha:s.heap.get? a=J oa)(JC:ë s.heap TI (.ref i1) (.ref i2))(h1:cP l1 s.heap i1 a1 k)(h2:cP l2 s.heap i2 a2 k)(g1:dW l1 s.heap a1 xs)(g2:dW l2 s.heap a2 ys)(hx:xs[k]? = J x)(hy:ys[k]? = J y)(hQ:∀h',p_ h' z TI TQ (rawInt a) Z->cP l1 h' i1 a1 (k+1)->cP l2 h' i2 a2 (k+1)->ë h' s.heap.objs.size x y->(∀c o,c≠z->c≠i1->c≠i2->s.heap.get? c=J o->h'.get? c=J o)->Q (.ref s.heap.objs.size) {s with heap:=h'}) :
  Á (Ä prog w) A (Builtin.«zip.__next__» ⟨[.ref z],[]⟩) (λfin s'=>∃v,fin=.done (.ret v)/\Q v s') E s:=by
 show Á _ _ (field _ 2 >>= _) _ _ _;refine t (ï hz rfl rfl ?_);refine t (ï hz rfl rfl (t (Ġ JC rfl ?_)));refine t (Gx hz ha λw1 z1 b1=>?_);refine t ?_;refine t (t (õ ?_));refine t (fM (h1.at λo e=>b1.extBut _ _ D.i1z e) (g1.at λo e=>b1.extBut _ _ D.l1z e) hx λw2 n2 b2=>Â ?_);refine Â ?_;refine t (t (õ ?_));refine t (fM (h2.at λo e=>b2.extBut _ _ D.i12.symm (b1.extBut _ _ D.i2z e)) (g2.at λo e=>b2.extBut _ _ D.l2i1 (b1.extBut _ _ D.l2z e)) hy λw4 n4 b4=>Â ?_);refine Â ?_;refine Â ?_;show Á _ _ (newTuple [x,y] >>= _) _ _ _;refine t (wpAny_newTuple ?_);have sz:w4.objs.size=s.heap.objs.size:=by rw[b4.1,b2.1,b1.1]
 have kp:∀c o,c≠z->c≠i1->c≠i2->s.heap.get? c=J o->w4.get? c=J o:=λc o c1 c3 c4 e=>b4.extBut _ _ c4 (b2.extBut _ _ c3 (b1.extBut _ _ c1 e));have z4:=b4.extBut _ _ D.i2z.symm (b2.extBut _ _ D.i1z.symm z1);refine Â ⟨_,rfl,?_⟩;rw[sz];exact hQ _ (Ó _ z4) (n2.at λo e=>Ó _ (b4.extBut _ _ D.i12 e)) (n4.at λo e=>Ó _ e) (by rw[<-sz];exact Ü _ rfl) λc o c1 c3 c4 e=>Ó _ (kp c o c1 c3 c4 e)
theorem Mr {l1 l2:Bool}{z TI:I}{f:Bool}{oa:Obj}{k:Nat}{xs:Array d}{Q:Fin->À->Prop}(hh:A.handled=L)(D:ZipApart z TI TQ i1 i2 a1 a2)(hz:p_ s.heap z TI TQ (rawInt a) f)(ha:s.heap.get? a=J oa)(JC:ë s.heap TI (.ref i1) (.ref i2))(h1:cP l1 s.heap i1 a1 k)(h2:cP l2 s.heap i2 a2 k)(g1:dW l1 s.heap a1 xs)(g2:dW l2 s.heap a2 ys)(CM:xs[k]? = L\/ys[k]? = L)(hE:∀h' e,(∀c o,c≠z->c≠TQ->c≠i1->c≠i2->s.heap.get? c=J o->h'.get? c=J o)->(∃o,h'.get? e=J o/\o.cls=.type "StopIteration")->E (.ref e) {s with heap:=h'}) :
  Á (Ä prog w) A (Builtin.«zip.__next__» ⟨[.ref z],[]⟩) Q E s:=by
 show Á _ _ (field _ 2 >>= _) _ _ _;refine t (ï hz rfl rfl ?_);refine t (ï hz rfl rfl (t (Ġ JC rfl ?_)));refine t (Gx hz ha λw1 z1 b1=>?_);refine t ?_;refine t (t (õ ?_));cases hx:xs[k]? with
 |none=>
  exact t (kA hh (h1.at λo e=>b1.extBut _ _ D.i1z e) (g1.at λo e=>b1.extBut _ _ D.l1z e) hx λw2 e b2 he=>hE w2 e (λc o c1 _ c3 _ x=>b2 _ _ c3 (b1.extBut _ _ c1 x)) he)
 |some x=>
  have hy:ys[k]? = L:=by lia
  refine t (fM (h1.at λo e=>b1.extBut _ _ D.i1z e) (g1.at λo e=>b1.extBut _ _ D.l1z e) hx λw2 n2 b2=>Â ?_);refine Â ?_;refine t (t (õ ?_));exact t (kA hh (h2.at λo e=>b2.extBut _ _ D.i12.symm (b1.extBut _ _ D.i2z e)) (g2.at λo e=>b2.extBut _ _ D.l2i1 (b1.extBut _ _ D.l2z e)) hy λw4 e b4 he=>hE w4 e (λc o c1 _ c3 c4 x=>b4 _ _ c4 (b2.extBut _ _ c3 (b1.extBut _ _ c1 x))) he)
end
def PV:typeLookup (.type "zip") "__len__"=pure L:=by kernel_rfl
def Uw:typeLookup (.type "zip") "__length_hint__"=pure L:=by kernel_rfl
section
variable {A:Ð}
def Ms {r:I}(hT:s.TypeIs (.ref r) "zip"){Q:Bool->À->Prop}(h:Q Z s):Á (Ä prog w) A (Builtin.List.listLengthHint (.ref r)) Q E s:=by
 refine t (Ŕ hT PV ?_);refine t (Ŕ hT Uw ?_);exact Â h
end
def ZS (h:É)(z TI TQ i1 i2 S:I)(k:Nat):Prop:=(k=0/\IsZip h z TI TQ .none/\∃p q,ë h TQ p q)\/∃(a:I) (f:Bool) (oa:Obj),p_ h z TI TQ (rawInt a) f/\h.get? a=J oa/\S<a
structure ZW (l1 l2:Bool)(z TI TQ i1 i2 a1 a2 S:I)(xs ys:Array d)(h:É)(k:Nat):Prop where
 st:ZS h z TI TQ i1 i2 S k
 ti:ë h TI (.ref i1) (.ref i2)
 t1:cP l1 h i1 a1 k
 t2:cP l2 h i2 a2 k
 g1:dW l1 h a1 xs
 g2:dW l2 h a2 ys
structure ZB (z TI TQ i1 i2 a1 a2 S:I):Prop where
 z:z<S
 ti:TI<S
 to:TQ<S
 i1:i1<S
 i2:i2<S
 a1:a1<S
 a2:a2<S
theorem ZW.keep {l1 l2:Bool}{z TI S:I}{xs:Array d}{k:Nat}(ZQ:ZW l1 l2 z TI TQ i1 i2 a1 a2 S xs ys h k)(B:ZB z TI TQ i1 i2 a1 a2 S)(up:∀b o,b≠S->h.get? b=J o->h'.get? b=J o):ZW l1 l2 z TI TQ i1 i2 a1 a2 S xs ys h' k:=by
 refine⟨?_,up _ _ (Þ B.ti) ZQ.ti,ZQ.t1.at λo e=>up _ o (Þ B.i1) e,ZQ.t2.at λo e=>up _ o (Þ B.i2) e,ZQ.g1.at λo e=>up _ o (Þ B.a1) e,ZQ.g2.at λo e=>up _ o (Þ B.a2) e⟩;rcases ZQ.st with⟨k0,hz,p,q,e⟩|⟨a,f,oa,hz,ha,la⟩
 ·exact .inl ⟨k0,up _ _ (Þ B.z) hz,p,q,up _ _ (Þ B.to) e⟩
 ·exact .inr ⟨a,f,oa,up _ _ (Þ B.z) hz,up _ _ (ò la) ha,la⟩
section
variable {A:Ð}{l1 l2:Bool}{z TI S:I}{xs:Array d}{k:Nat}
theorem IT {x y:d}{Q:Option d->À->Prop}(D:ZipApart z TI TQ i1 i2 a1 a2)(B:ZB z TI TQ i1 i2 a1 a2 S)(hS:S<s.heap.objs.size)(ZQ:ZW l1 l2 z TI TQ i1 i2 a1 a2 S xs ys s.heap k)(hx:xs[k]? = J x)(hy:ys[k]? = J y)
  (hQ:∀h',ZW l1 l2 z TI TQ i1 i2 a1 a2 S xs ys h' (k+1)->ë h' s.heap.objs.size x y->(∀c o,c≠z->c≠TQ->c≠i1->c≠i2->s.heap.get? c=J o->h'.get? c=J o)->Q (J (.ref s.heap.objs.size)) {s with heap:=h'}) :
  Á (Ä prog w) A (pyNext (.ref z)) Q E s:=by
 rcases ZQ.st with⟨k0,hz,p,q,e⟩|⟨a,f,oa,hz,ha,la⟩
 ·exact yc D hz ZQ.ti e ZQ.t1 ZQ.t2 ZQ.g1 ZQ.g2 hx hy λh' c1 c2 c3 c4 c5 kp=>hQ h' ⟨.inr ⟨_,M,_,c1,c5,hS⟩,kp _ _ D.TIz D.TITO D.TIi1 D.TIi2 ZQ.ti,c3,c4,ZQ.g1.at λo e=>kp _ o D.l1z D.l1TO D.l1i1 D.l1i2 e,ZQ.g2.at λo e=>kp _ o D.l2z D.l2TO D.l2i1 D.l2i2 e⟩ c5 kp
 ·have hT:s.TypeIs (.ref z) "zip":=⟨_,hz,rfl⟩;exact t (Ě (ę hT Ŏ (û Ŏ hT F.entry_zip_next (IS D hz ha ZQ.ti ZQ.t1 ZQ.t2 ZQ.g1 ZQ.g2 hx hy λh' c1 c3 c4 c5 kp=>Â (hQ h' ⟨.inr ⟨a,Z,oa,c1,kp a oa (ò (Nat.lt_trans B.z la)) (ò (Nat.lt_trans B.i1 la)) (ò (Nat.lt_trans B.i2 la)) ha,la⟩,kp _ _ D.TIz D.TIi1 D.TIi2 ZQ.ti,c3,c4,ZQ.g1.at λo e=>kp _ o D.l1z D.l1i1 D.l1i2 e,ZQ.g2.at λo e=>kp _ o D.l2z D.l2i1 D.l2i2 e⟩ c5 λc o n1 _ n3 n4 e=>kp c o n1 n3 n4 e)) (F.args_zip_next_1 _))))
theorem IU {Q:Option d->À->Prop}(hh:A.handled=L)(D:ZipApart z TI TQ i1 i2 a1 a2)(ZQ:ZW l1 l2 z TI TQ i1 i2 a1 a2 S xs ys s.heap k)(CM:xs[k]? = L\/ys[k]? = L)
  (hQ:∀h',(∀c o,c≠z->c≠TQ->c≠i1->c≠i2->s.heap.get? c=J o->h'.get? c=J o)->Q L {s with heap:=h'}):Á (Ä prog w) A (pyNext (.ref z)) Q E s:=by
 rcases ZQ.st with⟨k0,hz,p,q,e⟩|⟨a,f,oa,hz,ha,la⟩
 ·exact yd hh D hz ZQ.ti e ZQ.t1 ZQ.t2 ZQ.g1 ZQ.g2 CM hQ
 ·have hT:s.TypeIs (.ref z) "zip":=⟨_,hz,rfl⟩;refine t (Ě (ę hT Ŏ (û Ŏ hT F.entry_zip_next (Mr hh D hz ha ZQ.ti ZQ.t1 ZQ.t2 ZQ.g1 ZQ.g2 CM λh' e hk ⟨o,ho,hc⟩=>?_) (F.args_zip_next_1 _))));exact t (ň ⟨o,ho,hc⟩ ť (Â (hQ _ hk)))
end
structure ZG (xs ys:Array d)(lo:I)(h:É)(as:List I):Prop where
 above:∀a∈as,lo<a
 rise:as.Pairwise (·<·)
 pairs:∀(j:Nat) (a:I),as[j]? = J a->∃x y,xs[j]? = J x/\ys[j]? = J y/\ë h a x y
section
variable {A:Ð}{R:Result->À->Prop}{l1 l2:Bool}{z TI S:I}{xs:Array d}
theorem Mt (hh:A.handled=L)(D:ZipApart z TI TQ i1 i2 a1 a2)(B:ZB z TI TQ i1 i2 a1 a2 S)(n:Nat)(Zm:n=min xs.size ys.size)(hn:n<=Å)(res:d){h₁:É}
  (hR:∀h' tk bX c as,(∀b o,b≠S->b≠z->b≠TQ->b≠i1->b≠i2->h₁.get? b=J o->h'.get? b=J o)->h'.get? S=J {cls:=.type "list",dict:=L,data:=.seq bX c,slots:=#[]}->as.length=n->ZG xs ys S h' as->
   bX.toList=as.map Value.ref->R (.ok (.ret res)) {s with heap:=h',toks:=tk}) :
  ∀(k i:Nat) (h:É) (tk c:Nat) (bX:Array d) (as:List I),n-i=k->i<=n->ZW l1 l2 z TI TQ i1 i2 a1 a2 S xs ys h i->(∀b o,b≠S->b≠z->b≠TQ->b≠i1->b≠i2->h₁.get? b=J o->h.get? b=J o)->
   h.get? S=J {cls:=.type "list",dict:=L,data:=.seq bX c,slots:=#[]}->bX.toList=as.map Value.ref->as.length=i->ZG xs ys S h as->
   codeAny (Ä prog w) A (.builtin "list.extend.loop" ⟨[.ref S,.ref z,res],[]⟩) R {s with heap:=h,toks:=tk}:=by
 have nz:∀{b:I},S<b->b≠z/\b≠TQ/\b≠i1/\b≠i2:=λ{b} hb=>⟨ò (Nat.lt_trans B.z hb),ò (Nat.lt_trans B.to hb),ò (Nat.lt_trans B.i1 hb),ò (Nat.lt_trans B.i2 hb)⟩;have Sz:S≠z/\S≠TQ/\S≠i1/\S≠i2:=⟨ò B.z,ò B.to,ò B.i1,ò B.i2⟩;intro k
 induction k with
 |zero=>
  intro i h tk c bX as hk hi N1 Ob hS pj Vp hG;refine Ť PySem.F.entry_extend_loop ?_;refine t (IU hh D N1 (by
   grind) λh' he=>?_)
  refine Â (hR h' tk bX c as (λb o n1 n2 n3 n4 n5 e=>he b o n2 n3 n4 n5 (Ob b o n1 n2 n3 n4 n5 e)) (he S _ Sz.1 Sz.2.1 Sz.2.2.1 Sz.2.2.2 hS) (by lia) ⟨hG.above,hG.rise,λj a hj=>?_⟩ pj);obtain⟨x,y,e1,e2,e3⟩:=hG.pairs j a hj;obtain⟨q1,q2,q3,q4⟩:=nz (hG.above a (Ċ hj));exact⟨x,y,e1,e2,he a _ q1 q2 q3 q4 e3⟩
 |succ k ih=>
  intro i h tk c bX as hk hi N1 Ob hS pj Vp hG;have pq:i<n:=by lia
  obtain⟨x,hx⟩:∃p,xs[i]? = J p:=⟨xs[i]'(by lia),Ů (by lia)⟩;obtain⟨y,hy⟩:∃p,ys[i]? = J p:=⟨ys[i]'(by lia),Ů (by lia)⟩;have hsz:bX.size=i:=by rw[<-Ğ,pj,Ê,Vp]
  have hSl:=Ô hS;refine Ť PySem.F.entry_extend_loop ?_;refine t (IT D B hSl N1 hx hy λh' abg ht hkp=>?_);have SH:=hkp S _ Sz.1 Sz.2.1 Sz.2.2.1 Sz.2.2.2 hS;have up:∀b o,b≠S->h'.get? b=J o->(h'.update S (Ŀ (·.push (Value.ref h.objs.size)))).get? b=J o:=λb o hb e=>(Heap.get?_update_other _ _ (Ne.symm hb)).trans e;refine t ?_;refine wpAny_updateSeq SH rfl (Â ⟨ŵ PySem.F.plain_extend_loop _,ih (i+1) _ tk _ _ (as++[h.objs.size]) (by lia) pq (abg.keep B up)
   (λb o n1 n2 n3 n4 n5 e=>up b o n1 (hkp b o n2 n3 n4 n5 (Ob b o n1 n2 n3 n4 n5 e))) (Ō _ SH rfl) (by grind) (by rw[ã,Vp];rfl) ⟨?_,?_,?_⟩⟩) (by lia) (by rw[Array.size_push];lia)
  ·intro a ha;rcases ı.mp ha with ha|ha
   ·exact hG.above a ha
   ·rw[Ą.mp ha];exact hSl
  ·refine List.pairwise_append.mpr ⟨hG.rise,ķ _ _,λa ha b hb=>?_⟩;rw[Ą.mp hb];obtain⟨j,hj⟩:=List.mem_iff_getElem?.mp ha;obtain⟨_,_,_,_,e⟩:=hG.pairs j a hj;exact Ô e
  ·intro j b hj;rcases Nat.lt_trichotomy j as.length with h1|h1|h1
   ·rw[ŷ h1] at hj;obtain⟨x',y',e1,e2,e3⟩:=hG.pairs j b hj;have hb:=hG.above b (Ċ hj);obtain⟨q1,q2,q3,q4⟩:=nz hb;exact⟨x',y',e1,e2,up b _ (ò hb) (hkp b _ q1 q2 q3 q4 e3)⟩
   ·subst h1;have hb:=by simpa using hj
    subst hb;exact⟨x,y,by rw[Vp];exact hx,by rw[Vp];exact hy,up _ _ (ò hSl) ht⟩
   ·have YQ:(as++[h.objs.size])[j]? = L:=Ÿ (by rw[ã,Ŋ];lia);rw[YQ] at hj;cases hj
end
end Hc.Zp
namespace Hc.Zp
open PySem.W
section
variable {A:Ð}{l1 l2:Bool}{z TI S:I}{xs:Array d}
theorem Eh {R:Result->À->Prop}(hh:A.handled=L)(D:ZipApart z TI TQ i1 i2 a1 a2)(B:ZB z TI TQ i1 i2 a1 a2 S)(Zm:n=min xs.size ys.size)(hn:n<=Å)(hz:IsZip s.heap z TI TQ .none)(ZQ:ZW l1 l2 z TI TQ i1 i2 a1 a2 S xs ys s.heap 0)(res:d)(c₀:Nat)(hS:s.heap.get? S=J {cls:=.type "list",data:=.seq #[] c₀})
  (hR:∀h' tk bX c as,(∀b o,b≠S->b≠z->b≠TQ->b≠i1->b≠i2->s.heap.get? b=J o->h'.get? b=J o)->h'.get? S=J {cls:=.type "list",dict:=L,data:=.seq bX c,slots:=#[]}->as.length=n->ZG xs ys S h' as->
   bX.toList=as.map Value.ref->R (.ok (.ret res)) {s with heap:=h',toks:=tk}) :
  Á (Ä prog w) A.in1 (Builtin.List.listExtendWith (.ref S) (.ref z) res)
   (λfin s'=>match fin with|.done f=>R (.ok f) s'|.again c'=>c'.quiet=Z/\codeAny (Ä prog w) A c' R s') (λe s'=>R (.error e) s') s:=by
 have key:∀(h:É) (c₁ tk:Nat),(∀b o,b≠S->s.heap.get? b=J o->h.get? b=J o)->
   h.get? S=J _->codeAny (Ä prog w) A _ R _:=λh c₁ tk hk hS₁=>
  Mt hh D B n Zm hn res hR n 0 h tk c₁ #[] [] (Nat.sub_zero _) (ė _) (ZQ.keep B hk) (λb o n1 _ _ _ _ e=>hk b o n1 e) hS₁ rfl rfl ⟨(λ_ ha=>nomatch ha),List.Pairwise.nil,(λj a hj=>by simp at hj)⟩
 refine t (wpAny_typeOf ⟨_,hz,rfl⟩ ?_);have h1:Builtin.List.listSameRef (.ref S) (.ref z)=M:=by simp[Builtin.List.listSameRef,ò B.z]
 have h2:(Value.type "zip"==Value.type "list")=M:=by decide
 have h3:(Value.type "zip"==Value.type "tuple")=M:=by decide
 simp only[h1,if_false];refine t (wpAny_pyIter_zip hz ?_);refine t (õ (Ms ⟨_,hz,rfl⟩ ?_));refine t (İ ?_);refine t ?_;refine t (wpAny_updateSeq hS rfl ?_);have Zn:=Ō (Ŀ (·.push Value.none)) hS rfl;refine wpAny_updateSeq Zn rfl ?_;have hS₃:=Ō (Ŀ (·.pop)) Zn rfl;refine Â ⟨ŵ PySem.F.plain_extend_loop _,key _ _ _ (λb o hb e=>?_) hS₃⟩;simp_all[Heap.get?_update_other,Ne.symm,trans]
end
end Hc.Zp
namespace L2
open Hc.Zp
theorem aO.laids {t':Nat}(I:aO X pins Y H s)(k:∀b o,s.heap.get? b=J o->h'.get? b=J o)(up:∀b u,H b=J u->H' b=J u)(new:∀b u,H' b=J u->H b=J u\/(s.heap.objs.size<=b/\c8 X.prog X.w H' h' b u)) :
  aO X pins Y H' {s with heap:=h',toks:=t'}:=by
 refine I.step (ch:=[]) (λb hb=>by cases hb) (λb o _ _ hc e _=>k b o e) (λb o _ _ hc e _=>⟨o.slots,k b o e⟩) (λb o _ e n=>?_) (λb o hc e=>⟨o,k b o e⟩)
  (λb xs e=>up _ _ e) (λb o u e=>up _ _ e) (λb ps e=>⟨#[],by rw[up _ _ e];simp⟩) (λm hm=>?_) (λb u e=>?_) I.bare
 ·cases q:H' b with
  |none=>rfl
  |some u=>
   rcases new b u q with z|z
   ·lia
   ·exact absurd (Ô e) (Nat.not_lt.mpr z.1)
 ·obtain⟨o,es,ep,ho,r⟩:=hm;exact⟨o,es,ep,k _ o ho,r⟩
 ·rcases new b u e with z|z
  ·exact (I.hok b u z).stay (λc v hc q=>k c v q) (λc q=>up _ _ q) λc xs q=>up _ _ q
  ·exact z.2
end L2
namespace L2
open Hc.Zp
def Ei (H:Hp):List I->List V->List V->Hp
 |a::as,x::xs,y::ys=>bc (Ei H as xs ys) a (.tup [x,y])
 |_,_,_=>H
theorem vA {H:Hp}{b:I}:∀{as:List I} {xs ys:List V},b∉as->Ei H as xs ys b=H b
 |a::as,x::xs,y::ys,h=>by
  unfold Ei;rw[aG λz=>h (by rw[z];exact Ï)];exact vA λz=>h (Ö _ z)
 | [],_,_,_=>rfl
 |_::_,[],_,_=>rfl
 |_::_,_::_,[],_=>rfl
theorem Gy {H:Hp}:∀{as:List I} {xs ys:List V} {j:Nat} {a:I} {x y:V},as.Pairwise (·<·)->as[j]? = J a->xs[j]? = J x->ys[j]? = J y->Ei H as xs ys a=J (.tup [x,y])
 |a0::as,x0::xs,y0::ys,0,a,x,y,_,h1,h2,h3=>by
  cases h1;cases h2;cases h3;exact aI
 |a0::as,x0::xs,y0::ys,j+1,a,x,y,p,h1,h2,h3=>by
  unfold Ei;have SJ:=h1;rw[aG (ò ((Ė.mp p).1 a (Ċ SJ)))];exact Gy (Ė.mp p).2 SJ h2 h3
 | [],_,_,_,_,_,_,_,h,_,_=>by cases h
 |_::_,[],_,_,_,_,_,_,_,h,_=>by cases h
 |_::_,_::_,[],_,_,_,_,_,_,_,h=>by cases h
theorem R8:∀as:List I,aZ (as.map V.ref) (as.map Value.ref)
 | []=>.nil
 |_::as=>.cons rfl (R8 as)
theorem vB {K:È}{H:Hp}{A:I->Prop}:∀{us:List U} {vs:List V},us.length=vs.length->(∀(i:Nat) (u:U),us[i]? = J u->∃v,vs[i]? = J v/\Rp K H A u v)->aP K H A us vs
 | [],[],_,_=>aP.nil
 |u::us,v::vs,l,h=>by
  obtain⟨v',e,r⟩:=h 0 u rfl;cases e;exact aP.cons r (vB (Nat.succ.inj l) λi u e=>h (i+1) u e)
 | [],_::_,l,_=>by cases l
 |_::_,[],l,_=>by cases l
end L2
namespace Hc.Zp
open PySem.W
section
variable {A:Ð}{l1 l2:Bool}{z TI:I}{xs:Array d}
theorem w9 (hh:A.handled=L)(D:ZipApart z TI TQ i1 i2 a1 a2)(B:ZB z TI TQ i1 i2 a1 a2 s.heap.objs.size)(Zm:n=min xs.size ys.size)(hn:n<=Å)(hz:IsZip s.heap z TI TQ .none)(JC:ë s.heap TI (.ref i1) (.ref i2)){p:d}(QM:ë s.heap TQ p q)(t1:cP l1 s.heap i1 a1 0)(t2:cP l2 s.heap i2 a2 0)(g1:dW l1 s.heap a1 xs)(g2:dW l2 s.heap a2 ys)(hQ:∀(h':É) (tk:Nat) (as:List I) (bX:Array d) (c:Nat),(∀b o,b≠z->b≠TQ->b≠i1->b≠i2->s.heap.get? b=J o->h'.get? b=J o)->h'.get? s.heap.objs.size=J {cls:=.type "list",dict:=L,data:=.seq bX c,slots:=#[]}->as.length=n->ZG xs ys s.heap.objs.size h' as->bX.toList=as.map Value.ref->Q (.ref s.heap.objs.size) {s with heap:=h',toks:=tk}) :
  Á (Ä prog w) A (call (.type "list") [.ref z]) Q E s:=by
 refine callType_codes (Q₁:=λobj s₁=>obj=.ref _/\s₁={s with heap:=s.heap.push _}) F.called_list (F.typeCall_list_1 _) F.entry_list_init
  (code_list_new _ ⟨rfl,rfl⟩) λobj s₁ h₁=>?_
 obtain⟨rfl,rfl⟩:=h₁;have hS:(s.heap.push {cls:=.type "list",data:=.seq #[]}).get? _=J _:=Ü _ rfl;refine⟨⟨_,hS,rfl⟩,F.args_list_init_2 _ _,?_⟩;refine t ?_;refine t (Ġ hS rfl (Â ?_));refine t (wpAny_updateSeq hS rfl ?_);have Zn:=Ō (Ŀ (λ_=>(#[]:Array d))) hS rfl;have up:∀b o,s.heap.get? b=J o->((s.heap.push {cls:=.type "list",data:=.seq #[]}).update _ (Ŀ (λ_=>(#[]:Array d)))).get? b=J o:=
  λb o e=>(Heap.get?_update_other _ _ (ò (Ô e))).trans (Ó _ e)
 exact Eh (A:=A.in1) hh D B Zm hn (up _ _ hz) ⟨.inl ⟨rfl,up _ _ hz,p,q,up _ _ QM⟩,up _ _ JC,t1.at λo e=>up _ o e,t2.at λo e=>up _ o e,g1.at λo e=>up _ o e,g2.at λo e=>up _ o e⟩ .none _ Zn
  λh' tk bX c as hk SH hl hG pj=>⟨rfl,hQ h' tk as bX c (λb o n1 n2 n3 n4 e=>hk b o (Þ (Ô e)) n1 n2 n3 n4 (up b o e)) SH hl hG pj⟩
end
end Hc.Zp
namespace L2
open Hc.Zp
def PX (K:È)(ta:TA):TE:=λY H Q=>ta Y H λvs H1=>∃l1 l2 a1 a2 xs ys,vs=[.ref a1,.ref a2]/\zj l1 K H1 a1 xs/\zj l2 K H1 a2 ys/\xs.length<=Å/\
 ∀(ts:List I) (l:I) (H2:Hp),aN H1 H2->ts.length=min xs.length ys.length->(∀(j:Nat) (a:I),ts[j]? = J a->∃x y,xs[j]? = J x/\ys[j]? = J y/\H2 a=J (.tup [x,y]))->H1 l=L->H2 l=J (.lst (ts.map V.ref))->Q (.ref l) H2
def yB (ga:Ev->R (List U×Ev)):Ev->R (U×Ev):=λB=>(sx ga B).bind λx=>.ok (.lst x.1,x.2)
section
variable {p1 p3 p4 pos:Pos}{a b:Æ}
theorem IV (hc:X.calm=Z)(ha:PA X [a,b] ta)(hm:X.mg "list"=L)(hm2:X.mg "zip"=L)(hg:Gl X "list":=by rfl)(YD:Gl X "zip":=by rfl)(hs:Î [a,b] X.env=[(M,Í a X.env),(M,Í b X.env)]:=by rfl)(pG:Î [b] X.env=[(M,Í b X.env)]:=by rfl)(he:Î [.Call (.Name "zip" p3) [a,b] [] p4] X.env=(M,Í (.Call (.Name "zip" p3) [a,b] [] p4) X.env)::Î [] X.env:=by rfl)(nv:(ä pos (Î [] X.env)).any (·.1)=M:=by rfl)(YR:ä pos (Î [] X.env)=[]:=by rfl) :
  PE X (.Call (.Name "list" p1) [.Call (.Name "zip" p3) [a,b] [] p4] [] pos) (PX X.K ta):=by
 intro pins s Y H Q I h;refine Œ (kg I hg hm Ft ?_ (by decide) (by decide));refine š ?_ he nv;show Á _ _ (spliced ((M,Í _ X.env)::ä pos _)) _ _ s;refine ϊ ?_;refine Œ (kg I YD hm2 K1 ?_ (by decide) (by decide));refine š (c7 (ha p4 pins s Y H _ I h) λus s1 ⟨vs,H1,I1,r1,q1⟩=>?_) (by rw[hs,pG]) (by rw[pG];rfl);obtain⟨l1,l2,a1,a2,xs,ys,rfl,g1,g2,hl,q⟩:=q1;cases r1 with
 |cons r rr=>
  cases rr with
  |cons r' rr=>
   cases rr;cases r;cases r';obtain⟨is1,v1,m1⟩:=I1.sq g1;obtain⟨is2,v2,m2⟩:=I1.sq g2;have lt:∀(l:Bool) (c:Ý) (zs:Array Ì),dW l s1.heap c zs->c<s1.heap.objs.size:=λl c zs hq=>by
    cases l with
    |true=>obtain⟨_,e,_⟩:=hq;exact Ô e
    |false=>obtain⟨_,e,_⟩:=hq;exact Ô e
   refine ye m1 m2 λh' z1 z2 z3 z4 z5 kp=>?_;refine Â ?_;have la1:=lt l1 a1 _ m1;have la2:=lt l2 a2 _ m2;have ne:∀(c k:Nat),c<s1.heap.objs.size->c≠s1.heap.objs.size+k:=λc k h=>by lia
   have Vq:∀(c d k:Nat),s1.heap.objs.size+4<d->c<s1.heap.objs.size+4->c<d:=λc d k h1 h2=>by lia
   have n1:=v1.length;have n2:=v2.length;have lz:=Ô z1;have B:ZB _ (s1.heap.objs.size+2) (s1.heap.objs.size+3) s1.heap.objs.size (s1.heap.objs.size+1) a1 a2 _:=⟨lz,Vq _ _ 0 lz (by lia),Vq _ _ 0 lz (by lia),Vq _ _ 0 lz (by lia),Vq _ _ 0 lz (by lia),Vq _ _ 0 lz (ď la1 (Ϛ _ _)),Vq _ _ 0 lz (ď la2 (Ϛ _ _))⟩;refine w9 (n:=min is1.length is2.length) (I1.ok.hd hc) (zipApart_new la1 la2) B (by simp) (by lia) z1 z2 z3 z4 z5 (m1.at λo e=>kp _ o e) (m2.at λo e=>kp _ o e) λh2 tk as bX cc hk hS Vp hG pj=>?_;have pH:∀c o,s1.heap.get? c=J o->h2.get? c=J o:=λc o e=>by
    have lc:=Ô e;exact hk c o (ne c 4 lc) (ne c 3 lc) (ne c 0 lc) (ne c 1 lc) (kp c o e)
   have hlo:∀c∈as,s1.heap.objs.size<c:=λc hc=>Nat.lt_trans (Vq _ _ 0 lz (by lia)) (hG.above c hc);have fr:∀{c:Ý},s1.heap.objs.size<=c->H1 c=L:=λhc=>I1.hok.fresh hc;have at_:∀j c,as[j]? = J c->∃x y u1 u2,xs[j]? = J x/\ys[j]? = J y/\aX x u1/\aX y u2/\ë h2 c u1 u2:=λj c hj=>by
    obtain⟨u1,u2,e1,e2,e3⟩:=hG.pairs j c hj;have e1:=by simpa using e1
    have e2:=by simpa using e2
    obtain⟨j1,_⟩:=é.mp e1;obtain⟨j2,_⟩:=é.mp e2;have hx:xs[j]? = J _:=á (by lia);have hy:ys[j]? = J _:=á (by lia);obtain⟨w1,f1,r1⟩:=v1.get hx;obtain⟨w2,f2,r2⟩:=v2.get hy;rw[e1] at f1;cases f1;rw[e2] at f2;cases f2;exact⟨_,_,u1,u2,hx,hy,r1,r2,e3⟩
   have nl:=λz=>ĳ _ (hG.above _ z);have Vr:=Š (η (Ϛ _ 4) lz);have CY:∀j c x y,as[j]? = J c->xs[j]? = J x->ys[j]? = J y->bc (Ei H1 as xs ys) h'.objs.size (.lst (as.map V.ref)) c=J _:=λj c x y e1 e2 e3=>by
    rw[aG λz=>nl (by rw[<-z];exact Ċ e1)];exact Gy hG.rise e1 e2 e3
   have upH:∀c u,H1 c=J u->bc (Ei H1 as xs ys) _ (.lst (as.map V.ref)) c=J u:=λc u e=>by
    have n0:¬s1.heap.objs.size<=c:=λz=>by grind
    rw[aG λz=>n0 (by rw[z];exact Vr),vA λz=>n0 (Š (hlo c z))];exact e
   refine⟨.ref _,bc _ _ _,I1.laids pH upH λc u e=>?_,rfl,q as _ _ upH (by rw[Vp,n1,n2]) (λj c hj=>?_) (fr Vr) aI⟩
   ·by_cases c1:c=h'.objs.size
    ·subst c1;rw[aI] at e;cases e;refine .inr ⟨Vr,(⟨by rw[Ê];lia,as.map Value.ref,cc,R8 as,?_⟩)⟩;rw[hS,<-pj]
    ·by_cases c2:c∈as
     ·obtain⟨j,hj⟩:=List.mem_iff_getElem?.mp c2;obtain⟨x,y,u1,u2,e1,e2,r1,r2,e3⟩:=at_ j c hj;rw[CY j c x y hj e1 e2] at e;cases e;have e4:=e3;exact .inr ⟨Š (hlo c c2),by rw[Ĕ];simp,[u1,u2],.cons r1 (.cons r2 .nil),⟨_,e4,rfl,_,rfl⟩,_,e4⟩
     ·rw[aG c1,vA c2] at e;exact .inl e
   ·obtain⟨x,y,_,_,e1,e2,_,_,_⟩:=at_ j c hj;exact⟨x,y,e1,e2,CY j c x y hj e1 e2⟩
end
section
variable {p1 p3 p4 pos:Pos}{a b:Æ}{b1:Bool}
theorem IW (hc:X.calm=Z)(ha:DA X G [a,b] b1 M ga)(hm:X.mg "list"=L)(hm2:X.mg "zip"=L)(hg:Gl X "list":=by rfl)(YD:Gl X "zip":=by rfl)(hs:Î [a,b] X.env=[(M,Í a X.env),(M,Í b X.env)]:=by rfl)(pG:Î [b] X.env=[(M,Í b X.env)]:=by rfl)
  (he:Î [.Call (.Name "zip" p3) [a,b] [] p4] X.env=(M,Í (.Call (.Name "zip" p3) [a,b] [] p4) X.env)::Î [] X.env:=by rfl) (nv:(ä pos (Î [] X.env)).any (·.1)=M:=by rfl) (YR:ä pos (Î [] X.env)=[]:=by rfl) :
  DE X G (.Call (.Name "list" p1) [.Call (.Name "zip" p3) [a,b] [] p4] [] pos) b1 .O (yB ga):=⟨(IV hc ha.un hm hm2 hg YD hs pG he nv YR).to λY H Q h00=>by
 obtain⟨ZQ,A,B,q,f⟩:=h00;unfold yB sx at f;refine⟨ZQ,A,B,q,?_⟩;cases e1:ga B with
 |stk=>rw[e1] at f;exact f.elim
 |exc=>rw[e1] at f;exact f.elim
 |ok y=>
  obtain⟨us,B1⟩:=y;rw[e1] at f;intro vs H1 q1 x1 s1 vm;dsimp only[L2.R.bind] at f;split at f
  ·rename_i z e2;split at e2
   ·split at e2
    ·rename_i as bs ea eb;cases e2;have r:=vm.rps;obtain⟨v,vr,rfl,r1,r2⟩:=r;obtain⟨v',vr',rfl,r3,r4⟩:=r2;subst r4;obtain⟨l1,a1,xs,rfl,n1,z1,k1,_⟩:=uK ea r1;obtain⟨l2,a2,ys,rfl,n2,z2,k2,_⟩:=uK eb r3;refine⟨l1,l2,a1,a2,xs,ys,rfl,k1,k2,by rw[<-z1.length];exact n1,λts l H2 sm tl tat hn hl=>?_⟩;refine f _ _ (q1.same sm) (x1.trans (dP.same sm)) (sr s1 sm) (HU.e q1 sm ?_);have ln:(Ā (λa b=>U.tup [a,b]) as bs).length=ts.length:=by rw[ŋ,tl,z1.length,z2.length]
     have nA:∀b,(A b\/b=l)->A b\/H1 b=L:=λb z=>z.imp id λe=>by lia
     refine⟨l,rfl,hn,_,hl,?_,?_⟩
     ·rw[ŋ];exact ą (Nat.min_le_left _ _) n1
     ·refine vB (by grind) λi u hu=>?_;rw[ϓ] at hu;cases hA:as[i]? with
      |none=>rw[hA] at hu;cases hu
      |some ua=>cases hB:bs[i]? with
       |none=>rw[hA,hB] at hu;cases hu
       |some ub=>
        rw[hA,hB] at hu;cases hu;obtain⟨x,QO,px⟩:=z1.get hA;obtain⟨y,hy1,py⟩:=z2.get hB;have hi:i<ts.length:=by
         grind
        obtain⟨x',y',g1,g2,g3⟩:=tat i ts[i] (á hi);rw[QO] at g1;cases g1;rw[hy1] at g2;cases g2;refine⟨.ref ts[i],by simp,?_⟩;exact⟨_,_,rfl,g3,by have:Å=16777216:=rfl;rw[this];simp,aP.cons (px.re q1.mu (dP.same sm) nA) (aP.cons (py.re q1.mu (dP.same sm) nA) aP.nil)⟩
    ·cases e2
   ·cases e2
  ·exact f.elim
  ·exact f.elim⟩
end
end L2
namespace L2
open PySem.W
noncomputable def VI:U:=.tup [.int 0,.int 1]
noncomputable def IX:List Str:=["end","lay","mix","look","again"]
def vC (ts:List V):List (Key×V):=Ā (λk t=>(.inr k,t)) IX ts
def aad (K:È)(C:I):Sp:=λvs H Q _=>∃x dx,vs=[.ref x]/\H x=J (.ins C dx [])/\∀ae am ts H',H ae=L->H am=L->ae≠am->(∀b o,b≠x->H b=J o->H' b=J o)->
 H' x=J (.ins C dx [("ends",.ref ae),("mean",.ref am)])->H' ae=J (.lst [])->H' am=J (.dK (vC ts))->ts.length=5->(∀A,aP K H' A (ù 5 VI) ts)->Q .non H'
def mt5 (t1 t2 t3 t4 t5:V):pQ [] [(.inr "end",t1),(.inr "lay",t2),(.inr "mix",t3),(.inr "look",t4),(.inr "again",t5)]=vC [t1,t2,t3,t4,t5]:=by
 rfl
section
variable {base:É}
abbrev IY:TE:=Wn (xF (tC (.int 0)) (xF (tC (.int 1)) AW))
abbrev tK (s:Str):TE:=tC (.str s)
theorem Ux {x dx:I}{Q:VK}(co:CO K C ["ends","mean"])(h0:Y[0]? = J (J (.ref x)))(hx:H x=J (.ins C dx []))(q:∀ae am ts H',H ae=L->H am=L->ae≠am->(∀b o,b≠x->H b=J o->H' b=J o)->H' x=J (.ins C dx [("ends",.ref ae),("mean",.ref am)])->H' ae=J (.lst [])->H' am=J (.dK (vC ts))->ts.length=5->(∀A,aP K H' A (ù 5 VI) ts)->Q .non H') :
  JU K (wW 0) (Tb AW) "ends" {nx:=λY H=>JU K (wW 0) (Ka [(tK "end",IY),(tK "lay",IY),(tK "mix",IY),(tK "look",IY),(tK "again",IY)]) "mean" {nx:=λ_ H'=>Q .non H',rt:=Q} Y H,rt:=Q} Y H:=by
 refine⟨by decide,λae Oc=>⟨.ref x,h0,x,C,dx,[],rfl,?_,co.cl,co.no _ (by simp),by decide,?_⟩⟩
 ·rw[aG (λe=>by lia)];exact hx
 ·have xe:x≠ae:=λe=>by lia
  intro am Od;have QO:bc (bc H ae (.lst [])) x _ x=J (.ins C dx [("ends",.ref ae)]):=aI;have Zo:am≠ae:=λe=>by simp_all[aG,Ne.symm,aI]
  have Zq:am≠x:=λe=>by simp_all[aI]
  have Vs:=by rw[aG Zq,aG Zo] at Od;exact Od
  refine⟨by decide,λt1 n1=>⟨by decide,λt2 n2=>⟨by decide,λt3 n3=>⟨by decide,λt4 n4=>⟨by decide,λt5 n5=>?_⟩⟩⟩⟩⟩;have b1:bc (bc (bc H ae (.lst [])) x (.ins C dx (iz "ends" (.ref ae) []))) am (.dK []) am=J (.dK []):=aI;have c1:bc (bc (bc H ae (.lst [])) x (.ins C dx (iz "ends" (.ref ae) []))) am (.dK []) x=J (.ins C dx [("ends",.ref ae)]):=by rw[aG (Ne.symm Zq)];exact QO
  have d1:bc (bc (bc H ae (.lst [])) x (.ins C dx (iz "ends" (.ref ae) []))) am (.dK []) ae=J (.lst []):=by rw[aG (Ne.symm Zo),aG (Ne.symm xe)];exact aI
  have o1:∀b o,b≠x->H b=J o->bc (bc (bc H ae (.lst [])) x (.ins C dx (iz "ends" (.ref ae) []))) am (.dK []) b=J o:=λb o hb ho=>by
   rw[aG (λe=>by lia),aG hb,aG (λe=>by lia)];exact ho
  generalize bc _ am (.dK [])=H3 at *;have s1:aN H3 (bc H3 t1 (.tup [.int 0,.int 1])):=aN.updN (λ_ _ e=>e) n1;have e1:bc H3 t1 _ t1=J (.tup [.int 0,.int 1]):=aI;generalize bc H3 t1 _=H4 at *;have s2:aN H4 (bc H4 t2 (.tup [.int 0,.int 1])):=aN.updN (λ_ _ e=>e) n2;have e2:bc H4 t2 _ t2=J (.tup [.int 0,.int 1]):=aI;generalize bc H4 t2 _=H5 at *;have s3:aN H5 (bc H5 t3 (.tup [.int 0,.int 1])):=aN.updN (λ_ _ e=>e) n3;have e3:bc H5 t3 _ t3=J (.tup [.int 0,.int 1]):=aI;generalize bc H5 t3 _=H6 at *;have s4:aN H6 (bc H6 t4 (.tup [.int 0,.int 1])):=aN.updN (λ_ _ e=>e) n4;have e4:bc H6 t4 _ t4=J (.tup [.int 0,.int 1]):=aI;generalize bc H6 t4 _=H7 at *;have s5:aN H7 (bc H7 t5 (.tup [.int 0,.int 1])):=aN.updN (λ_ _ e=>e) n5;have e5:bc H7 t5 _ t5=J (.tup [.int 0,.int 1]):=aI;generalize bc H7 t5 _=H8 at *;have S:=λb o e=>s5 b o (s4 b o (s3 b o (s2 b o (s1 b o e))));have f1:=s5 _ _ (s4 _ _ (s3 _ _ (s2 _ _ e1)));have f2:=s5 _ _ (s4 _ _ (s3 _ _ e2));have f3:=s5 _ _ (s4 _ _ e3);have f4:=s5 _ _ e4;have bm:=S _ _ b1;have cm:=S _ _ c1;refine⟨bm,[(.inr "end",.ref t1),(.inr "lay",.ref t2),(.inr "mix",.ref t3),(.inr "look",.ref t4),(.inr "again",.ref t5)],rfl,(show 5<=15 by decide),?_⟩;rw[mt5];have cx:bc H8 am (.dK (vC [.ref t1,.ref t2,.ref t3,.ref t4,.ref t5])) x=J (.ins C dx [("ends",.ref ae)]):=by rw[aG (Ne.symm Zq)];exact cm
  refine⟨.ref x,h0,x,C,dx,_,rfl,cx,co.cl,co.no _ (by simp),(show 1<1000 by decide),?_⟩;have up:∀b o,b≠x->b≠am->H8 b=J o->bc (bc H8 am (.dK (vC [.ref t1,.ref t2,.ref t3,.ref t4,.ref t5]))) x (.ins C dx (iz "mean" (.ref am) [("ends",.ref ae)])) b=J o:=λb o h1 h2 h=>by
   simp_all[aG]
  have tp:∀t,H8 t=J (.tup [.int 0,.int 1])->t≠x/\t≠am:=λt h=>⟨(λe=>by lia),(λe=>by lia)⟩;refine q ae am [.ref t1,.ref t2,.ref t3,.ref t4,.ref t5] _ Oc Vs (Ne.symm Zo) (λb o hb ho=>?_) aI (up _ _ (Ne.symm xe) (Ne.symm Zo) (S _ _ d1)) ?_ rfl λA=>?_
  ·grind
  ·rw[aG Zq];exact aI
  ·have R:∀t,H8 t=J _->Rp K _ A VI (.ref t):=λt h=>by
    refine⟨t,_,rfl,up _ _ (tp t h).1 (tp t h).2 h,by decide,aP.cons (by rfl) (aP.cons (by rfl) aP.nil)⟩
   exact aP.cons (R _ f1) (aP.cons (R _ f2) (aP.cons (R _ f3) (aP.cons (R _ f4) (aP.cons (R _ e5) aP.nil))))
end
end L2
namespace L2
open PySem.W
noncomputable def SF:List Str:=["plan","trace","bottom","weights"]
def vD (fc fp fs:List U->R U):Nat->List U->List U->List U->R U
 |0,_,_,_=>.stk
 |n+1,ws,es,ms=>match ws[ws.length-1]? with
  |none=>if es.length<=10000 then .ok (.obj ["ends","mean"] [.lst es,.dct (IX.map .str) ms]) else .stk
  |some sc=>(bL "plan" sc).bind λpl=>(cv pl (.int 0)).bind λz=>match z with
   | .str f=>match IX.findIdx? (·==f),(fc [sc]) with
    |some i,.ok c=>match ms[i]? with
     |some m=>(fp [m,c]).bind λv=>(fs [sc]).bind λk=>match k with
      | .lst ks=>if ws.length+ks.length<=10000/\es.length<10000 then vD fc fp fs n (ws.dropLast++ks) (if f="end" then es++[sc] else es) (ms.set i v) else .stk
      |_=>.stk
     |none=>.stk
    |_,_=>.stk
   |_=>.stk
noncomputable abbrev G3:Gm:=⟨[M,M,M,Z,M,M],M,λ_=>False⟩
theorem Gz (h:G3.is i=Z):i=3:=by
 match i,h with
 |3,_=>rfl
 |n+6,h=>cases h
abbrev ZA (A0:I->Prop)(ae am:I):I->Prop:=λa=>A0 a\/a=ae\/a=am
abbrev AA (A0:I->Prop)(al ae am:I):I->Prop:=λa=>ZA A0 ae am a\/a=al
noncomputable abbrev ZB (H:Hp)(al:I):Hp:=λb=>if b=al then L else H b
section
variable {A0:I->Prop}{H0:Hp}{aw dx al ae am:I}{ws es ms:List U}{B':Ev}
theorem reZ (r:cz K G3 ZQ A B Y H)(s3:Y[3]? = J (J (.ref al)))(hA:∀a,A a->ZQ.A0 a\/a=al)(x:dP A H H')(hl:H' al=H al)(mu:∀a,A a->Mu (H' a)):cz K G3 ⟨ZQ.A0,ZB H' al,0⟩ A B Y H' where
 slot:=λi u h=>by
  obtain⟨v,h1,h2⟩:=r.slot i u h;refine⟨v,h1,?_⟩;by_cases c:G3.is i=Z
  ·rw[h_ c] at h2 |-;obtain⟨a,e1,e2,e3,e4,e5⟩:=h2;have:=Gz c;subst this;rw[s3,e1] at h1;cases h1;exact⟨_,e1,e2,h_ rfl,e4,e5.re r.mu x (λb z=>.inl z) λo w=>by lia⟩
  ·rw[hZ c] at h2 |-;exact h2.re r.mu x λb z=>.inl z
 dis:=r.dis
 mu:=mu
 sup:=r.sup
 out:=λa h=>(hA a h).imp id λe=>h_ e
 bas:=λa o h=>by
  lia
 io0:=λh=>by cases h
 len:=r.len
structure WJ (K:È)(A0:I->Prop)(H0:Hp)(C aw dx al ae am:I)(es ms:List U)(B:Ev)(Y:St)(H:Hp):Prop where
 r:cz K G3 ⟨ZA A0 ae am,ZB H al,0⟩ (AA A0 al ae am) B Y H
 s2:Y[2]? = J (J (.ref aw))
 s3:Y[3]? = J (J (.ref al))
 bas:aN H0 H
 w:H aw=J (.ins C dx [("ends",.ref ae),("mean",.ref am)])
 e:∃ys,H ae=J (.lst ys)/\aP K H (AA A0 al ae am) es ys
 m:∃ts,H am=J (.dK (vC ts))/\ts.length=5/\aP K H (AA A0 al ae am) ms ts
 nl:H0 al=L
 ne:H0 ae=L
 nm:H0 am=L
 le:al≠ae
 lm:al≠am
 em:ae≠am
theorem WJ.go (h:WJ K A0 H0 C aw dx al ae am es ms B Y H)(q:cz K G3 ⟨ZA A0 ae am,ZB H al,0⟩ (AA A0 al ae am) B' Y H')(x:dP (AA A0 al ae am) H H'):WJ K A0 H0 C aw dx al ae am es ms B' Y H':=by
 have kp:=λb o n e=>q.bas b o (by show (if b=al then L else H b)=J o;rw[hZ n];exact e);refine {h with r:=reZ q h.s3 (λa z=>z) (λ_ _ _ e=>e) rfl q.mu,bas:=λb o e=>kp b o (λz=>by rw[z,h.nl] at e;cases e) (h.bas b o e),w:=kp _ _ (λz=>?_) h.w,e:= ?_,m:= ?_}
 ·have:=h.r.mu al (.inr rfl);rw[<-z,h.w] at this;exact this
 ·obtain⟨ys,a,b⟩:=h.e;exact⟨ys,kp _ _ (Ne.symm h.le) a,b.re h.r.mu x λb z=>.inl z⟩
 ·obtain⟨ys,a,b,c⟩:=h.m;exact⟨ys,kp _ _ (Ne.symm h.lm) a,b,c.re h.r.mu x λb z=>.inl z⟩
def WJ.same (h:WJ K A0 H0 C aw dx al ae am es ms B Y H)(s:aN H H'):WJ K A0 H0 C aw dx al ae am es ms B Y H' :=
 h.go (h.r.same s) (dP.same s)
def WJ.set (h:WJ K A0 H0 C aw dx al ae am es ms B Y H)(hi:i≠2)(hj:i≠3)(c:G3.is i=M)(r:Rp K H (AA A0 al ae am) u v):WJ K A0 H0 C aw dx al ae am es ms (B.set i (J u)) (Y.set i (J v)) H:=
 {h with r:=h.r.set c r,s2:=by rw[ē hi];exact h.s2,s3:=by rw[ē hj];exact h.s3}
theorem WJ.updA (h:WJ K A0 H0 C aw dx al ae am es ms B Y H)(ha:a=ae\/a=am)(mo:Mu (J o)):cz K G3 ⟨ZA A0 ae am,ZB (bc H a o) al,0⟩ (AA A0 al ae am) B Y (bc H a o)/\aN H0 (bc H a o)/\bc H a o aw=H aw/\dP (AA A0 al ae am) H (bc H a o):=by
 have x:dP (AA A0 al ae am) H (bc H a o):=λb o' nb e=>by rw[aG (λz:b=a=>nb (.inl (.inr (z▸ha))))];exact e
 refine⟨reZ h.r h.s3 (λ_ z=>z) x (aG λz=>?_) λb hb=>?_,λb o' e=>?_,aG λz=>?_,x⟩
 ·rcases ha with e|e
  ·exact h.le (z.trans e)
  ·exact h.lm (z.trans e)
 ·by_cases e:b=a
  ·rw[e,aI];exact mo
  ·rw[aG e];exact h.r.mu b hb
 ·rw[aG λz=>?_];exact h.bas b o' e;rcases ha with e'|e'
  ·rw[z,e',h.ne] at e;cases e
  ·rw[z,e',h.nm] at e;cases e
 ·have:=h.r.mu a (.inl (.inr ha));rw[<-z,h.w] at this;exact this
theorem WJ.upE (h:WJ K A0 H0 C aw dx al ae am es ms B Y H){VU:List U}{ys:List V}(r:aP K H (AA A0 al ae am) VU ys):WJ K A0 H0 C aw dx al ae am VU ms B Y (bc H ae (.lst ys)):=by
 obtain⟨a,b,c,x⟩:=h.updA (o:=.lst ys) (.inl rfl) True.intro;obtain⟨ts,m1,m2,m3⟩:=h.m;exact {h with r:=a,bas:=b,w:=c.trans h.w,e:=⟨ys,aI,r.re h.r.mu x λb z=>.inl z⟩,m:=⟨ts,by rw[aG (Ne.symm h.em)];exact m1,m2,m3.re h.r.mu x λb z=>.inl z⟩}
theorem WJ.upM (h:WJ K A0 H0 C aw dx al ae am es ms B Y H){C1:List U}{ts:List V}(l:ts.length=5)(r:aP K H (AA A0 al ae am) C1 ts):WJ K A0 H0 C aw dx al ae am es C1 B Y (bc H am (.dK (vC ts))):=by
 obtain⟨a,b,c,x⟩:=h.updA (o:=.dK (vC ts)) (.inr rfl) True.intro;obtain⟨ys,m1,m3⟩:=h.e;exact {h with r:=a,bas:=b,w:=c.trans h.w,m:=⟨ts,aI,l,r.re h.r.mu x λb z=>.inl z⟩,e:=⟨ys,by rw[aG h.em];exact m1,m3.re h.r.mu x λb z=>.inl z⟩}
def WJ.ev (h:WJ K A0 H0 C aw dx al ae am es ms B Y H){b:Bool}{m:Md}{Q:VK}(e:g B=.ok (u,B'))(hm:m≠.P)(k:∀v H',WJ K A0 H0 C aw dx al ae am es ms B' Y H'->dP (AA A0 al ae am) H H'->Rp K H' (AA A0 al ae am) u v->Q v H'):tD K G3 b m g Y H Q:=
 ⟨_,_,B,h.r,by rw[e];exact λv H' q x s vm=>k v H' (h.go q x) x (vm.rp hm)⟩
def WJ.tst (h:WJ K A0 H0 C aw dx al ae am es ms B Y H){g:Ev->R (Bool×Ev)}{b c:Bool}{Q:Bool->Hp->Prop}(e:g B=.ok (c,B'))(k:∀H',WJ K A0 H0 C aw dx al ae am es ms B' Y H'->Q c H'):Fu K G3 b g Y H Q:=
 ⟨_,_,B,h.r,by rw[e];exact λH' q x s=>k H' (h.go q x)⟩
theorem BY {f:Str}(e:IX.findIdx? (·==f)=J i){ts:List V}(l:ts.length=5)(v:V):IX[i]? = J f/\(∃t,ts[i]? = J t/\nD (vC ts) (.inr f)=J t)/\jw (vC ts) (.inr f) v=vC (ts.set i v):=by
 match ts,l with
 | [t1,t2,t3,t4,t5],_=>
  have hf:f="end"\/f="lay"\/f="mix"\/f="look"\/f="again":=by
   have a:IX.any (·==f)=Z:=by rw[<-List.findIdx?_isSome,e];rfl
   obtain⟨x,hx,hb⟩:=Ω.mp a;rw[<-eq_of_beq hb];simpa [IX] using hx
  rcases hf with rfl|rfl|rfl|rfl|rfl
  ·cases (e);exact⟨rfl,⟨t1,rfl,rfl⟩,rfl⟩
  ·cases (e);exact⟨rfl,⟨t2,rfl,rfl⟩,rfl⟩
  ·cases (e);exact⟨rfl,⟨t3,rfl,rfl⟩,rfl⟩
  ·cases (e);exact⟨rfl,⟨t4,rfl,rfl⟩,rfl⟩
  ·cases (e);exact⟨rfl,⟨t5,rfl,rfl⟩,rfl⟩
end
end L2
section
set_option maxHeartbeats 400000
namespace L2
open PySem PySem.Spec PyProof.Rows PySem.W
structure WE (X:Cx)(e:Æ)(t:TE):Prop where
 un:PE X e t
structure WT (X:Cx)(e:Æ)(t:TT):Prop where
 un:PT X e t
structure WS (X:Cx)(s:Ë)(t:TS):Prop where
 un:PS X s t
structure R9 (X:Cx)(s:List Ë)(t:TS):Prop where
 un:tX X s t
section
variable {e e1 e2 o i v:Æ}{es:List Æ}{s:Ë}{ss:List Ë}{t u:TS}{t1 t2 td ty tv ta:TE}{f:Str}{b:Bool}{m:Md}{p pos cO q r d:Pos}
def vE:R9 X [] QR:=⟨sZ⟩
def eL (h:WS X s t)(k:R9 X ss u):R9 X (s::ss) (V4 t u):=⟨nC h.un k.un⟩
def BZ (h:DE X G e b m g):WE X e (tD X.K G b m g):=⟨h.un⟩
def R_ {g:Ev->R (Bool×Ev)}(h:DT X G e b g):WT X e (Fu X.K G b g):=⟨h.un⟩
def wv (i:Nat)(hN:X.N[i]? = J x:=by rfl)(hv:AN X.env.scope x:=by first|exact Or.inl rfl|exact Or.inr (Or.inl rfl)|exact Or.inr (Or.inr rfl))(hd:(x==("__debug__":Str))=M:=by decide)
  (jX:(x==("__classdict__":Str))=M:=by decide):WE X (.Name x pos) (wW i):=⟨eN hN hv hd jX⟩
def Ej (h:WE X e ta)(hb:Ħ e f X.env (Í e X.env)=Í e X.env:=by rfl):WE X (.Attribute e f pos) (Wm X.K ta f):=⟨JV h.un hb⟩
def PY (hu:X.A.units+1<Ò)(ho:WE X o td)(hi:WE X i ty)(hs:HH i:=by exact λ_ _=>rfl):WE X (.Subscript o i pos) (QZ td ty):=⟨OO hu ho.un hi.un hs⟩
def Mv {k:Nat}(F:Fn X.prog X.w X.K X.mg X.base x k ps sp)(hr:cX k X.A)(h1:WE X e1 t1)(h2:WE X e2 t2)(hg:Gl X x:=by rfl)(qL:(x==("__debug__":Str))=M:=by decide)(he:Î [e1,e2] X.env=(M,Í e1 X.env)::Î [e2] X.env:=by rfl)(h3:Î [e2] X.env=(M,Í e2 X.env)::Î [] X.env:=by rfl)(nv:(ä pos (Î [e2] X.env)).any (·.1)=M:=by rfl):WE X (.Call (.Name x p) [e1,e2] [] pos) (JY sp [] E0 (xF t1 (xF t2 AW))):=
 ⟨ug F hr (gD h1.un (gD h2.un mF h3) he) hg qL he nv⟩
def zB {i:Nat}(hN:X.N.Nodup)(he:WE X e te)(hi:X.N[i]? = J x:=by rfl)(hx:JE X.env.scope x:=by first|exact Or.inl rfl|exact Or.inr rfl)(hs:Ē e (J (.Name x pos')) pos.line X.env=pure M:=by rfl)(hf:X.fn x=Z\/X.env.scope.names.lookup x=J .local:=by first|exact .inl rfl|exact .inr rfl|assumption) :
  WS X (.Assign [.Name x pos'] e pos) (Hq te (xD i)):=⟨C3 hN hi hx he.un hs hf⟩
def PZ {f:Æ}{ks:List ĕ}{p:Pos}(hu:X.A.units+1<Ò)(ho:WE X o td)(hi:WE X i ty)(hv:WE X (.Call f es ks p) tv):WS X (.Assign [.Subscript o i pos'] (.Call f es ks p) pos) (Q0 td ty tv):=⟨OP hu ho.un hi.un hv.un rfl⟩
def XM {c:Æ}{a b:List Ë}(hc:WT X c tc)(ha:R9 X a t)(hb:R9 X b u):WS X (.If c a b pos) (V6 tc t u):=⟨JO hc.un ha.un hb.un⟩
def Mw {c:Æ}(hp:ř (Ä X.prog X.w) X.A X.env X.xe)(hc:WT X c tc)(hb:R9 X ss t):WS X (.While c ss [] pos) (JR tc t):=⟨AR hp hc.un hb.un⟩
def GA {f:Æ}{ks:List ĕ}(he:WE X (.Call f es ks p) te):WS X (.Expr (.Call f es ks p) pos) (QS te):=⟨Fg he.un rfl⟩
def Uy (he:WE X e te):WS X (.Return (J e) pos) (V5 te):=⟨yS he.un⟩
def IZ {bW:Pos}(ho:WE X o ta)(he:WE X e te)(pd:Ħ o "append" X.env (Í o X.env)=Í o X.env:=by rfl)
  (N2:((ä bW (Î [e] X.env)).all (λx=> !x.1)&&(backToKw bW (ŧ [] X.env)).all (λx=>x.1.isSome)
   && decide (([e]:List Æ).length+([]:List ĕ).length+(if ([]:List ĕ).isEmpty then 0 else 1)<30))=Z:=by rfl)
  (ph:(cO.endLine==bW.line)=Z:=by rfl) (hs:Î [e] X.env=(M,Í e X.env)::Î [] X.env:=by rfl):WE X (.Call (.Attribute o "append" cO) [e] [] bW) (ZI X.K "list" yY ta (xF te AW)):=
 ⟨QW ń Ϡ ϡ pO ho.un (gD he.un mF hs) pd N2 ph hs rfl⟩
def vF {j}:WE X (.Constant (.str x) j p) (tC (.str x)):=⟨JN⟩
def vG {a b c d e f}:WE X (.Tuple [.Constant (.int 0) a b,.Constant (.int 1) c d] e f) IY:=⟨JW (gD yR (gD yR mF))⟩
def Mx {k1 k2 k3 k4 k5 v1 v2 v3 v4 v5:Æ}{t1 t2 t3 t4 t5 s1 s2 s3 s4 s5:TE}(h1:WE X k1 t1)(h2:WE X v1 s1)(h3:WE X k2 t2)(h4:WE X v2 s2)(h5:WE X k3 t3)(h6:WE X v3 s3)(h7:WE X k4 t4)(h8:WE X v4 s4)(h9:WE X k5 t5)(h10:WE X v5 s5):WE X (.Dict [J k1,J k2,J k3,J k4,J k5] [v1,v2,v3,v4,v5] q) (Ka [(t1,s1),(t2,s2),(t3,s3),(t4,s4),(t5,s5)]):=
 ⟨OR (ko h1.un h2.un (ko h3.un h4.un (ko h5.un h6.un (ko h7.un h8.un (ko h9.un h10.un OQ))))) rfl rfl (List.cons_ne_nil _ _) (by simp)⟩
def P0 {ks:List (Option Æ)}{vs:List Æ}(h0:WE X o ta)(hv:WE X (.Dict ks vs q) tv):WS X (.Assign [.Attribute o f r] (.Dict ks vs q) d) (JU X.K ta tv f):=⟨C9 h0.un hv.un rfl⟩
def P1 (h0:WE X o ta):WS X (.Assign [.Attribute o f r] (.List [] q) d) (JU X.K ta (Tb AW) f):=⟨C9 h0.un (JX mF) rfl⟩
def My {k:Nat}(Mqq:Mk X.K C fa)(F:gE X.prog X.w X.K X.mg X.base pD k fa fd ps sp)(hr:cX (k+1) X.A)(hm:X.mg x=J (.ref C))(hb:j0 X.K fd ps [])(hg:Gl X x:=by rfl)(qL:(x==("__debug__":Str))=M:=by decide):WE X (.Call (.Name x p) [] [] pos) (JZ C sp [] E0 AW):=⟨J0 Mqq F hr hg hm hb .nil J9 qL⟩
end
theorem P2 {fc fp fs:List U->R U}{ws es ms:List U}{z sc:U}(h:ws[ws.length-1]? = J sc)(e:vD fc fp fs (n+1) ws es ms=.ok z):∃pl f i c m v ks,bL "plan" sc=.ok pl/\cv pl (.int 0)=.ok (.str f)/\IX.findIdx? (·==f)=J i/\fc [sc]=.ok c/\ms[i]? = J m/\fp [m,c]=.ok v/\fs [sc]=.ok (.lst ks)/\ws.length+ks.length<=10000/\es.length<10000/\vD fc fp fs n (ws.dropLast++ks) (if f="end" then es++[sc] else es) (ms.set i v)=.ok z:=by
 unfold vD at e;rw[h] at e;dsimp only at e;cases e1:bL "plan" sc with
 |exc=>rw[e1] at e;cases e
 |stk=>rw[e1] at e;cases e
 |ok pl=>
  rw[e1] at e;cases e2:cv pl (.int 0) with
  |exc=>simp only[R.bind,e2] at e;cases e
  |stk=>simp only[R.bind,e2] at e;cases e
  |ok y=>
   simp only[R.bind,e2] at e;split at e
   ·rename_i f;split at e
    ·rename_i i c e3 e4;split at e
     ·rename_i m e5;cases e6:fp [m,c] with
      |exc=>rw[e6] at e;cases e
      |stk=>rw[e6] at e;cases e
      |ok v=>
       rw[e6] at e;cases e7:fs [sc] with
       |exc=>rw[e7] at e;cases e
       |stk=>rw[e7] at e;cases e
       |ok k=>
        rw[e7] at e;dsimp only at e;split at e
        ·split at e
         ·rename_i c;exact⟨pl,f,i,_,m,v,_,rfl,e2,e3,e4,e5,e6,rfl,c.1,c.2,e⟩
         ·cases e
        ·cases e
     ·cases e
    ·cases e
   ·cases e
end L2
end
namespace Hc.Ts
open PySem.W
section
open PySem.SeqAt
open PySem.AutoSeq1 (wpAny_loadPart')
open PySem.MeetsSeq PySem.MeetsSeq2 PySem.MeetsSeq3
theorem w_ (l b:I)(items eE:Array Ì)(n n2:Nat)(dd Hh:Option I)(sl JL:Array (Option Ì))(ns ms:List (List Int)) :
  Meets (Builtin.«tuple.__lt__» ⟨[.ref l,.ref b],[]⟩)
   (λA R s=>A.units+4<Ò/\iG s.heap items.toList ns/\iG s.heap eE.toList ms/\s.heap.get? l=J {cls:=.type "tuple",dict:=dd,data:=.seq items n,slots:=sl}/\s.heap.get? b=J {cls:=.type "tuple",dict:=Hh,data:=.seq eE n2,slots:=JL} /\
    R (.ok (.ret (.bool (iT ns ms)))) s):=
 .of_wp λprog w A R s h=>by
  obtain⟨hp,g,d,tk,os⟩:=s;obtain⟨hu,hi,hj,hl,hb,h⟩:=h;have f2:=AutoSeq1.sub_tuple_tuple;have z1:items.size=ns.length:=by rw[<-hi.length];simp
  have z2:eE.size=ms.length:=by rw[<-hj.length];simp
  wp_walk using wpAny_loadPart' hl,wpAny_loadPart' hb,wpAny_forIn_list _ (λrest b s'=>b.1=L/\s'=⟨hp,g,d,tk,os⟩/\∃(vs ws:List Ì) (md C1:List _),rest=vs.zip ws/\
   iG hp vs md/\iG hp ws C1/\md.length+eE.size=C1.length+items.size/\R (.ok (.ret (.bool (iT md C1)))) ⟨hp,g,d,tk,os⟩) _
  case turn=>
   rintro⟨y,x⟩ rest b s' ⟨tW,rfl,vs,ws,md,C1,hz,QL,hwi,iw,hR⟩;cases QL with
   |nil=>cases hz
   |cons a1 a2 hvi'=>
    cases hwi with
    |nil=>cases hz
    |cons c1 c2 hwi'=>
     rename_i t1 i1 k1 vs1 adj t2 i2 k2 vs2 adk;injection hz with hyx hrest
     injection hyx with hy hx
     subst hy hx;unfold iT at hR;simp only[Ù] at iw;refine Ã (wpAny_eqBool_tuple (by lia) (XF a1 a2) (XF c1 c2) ?_);by_cases e:k1=k2
     ·rw[h_ e] at hR;wp_walk;exact⟨rfl,rfl,_,_,_,_,hrest,hvi',hwi',by lia,hR⟩
     ·rw[hZ e,<-BN] at hR;have hri:∀(E:Ì->À->Prop) (Q:Ì->À->Prop),Q _ _->Á (Ä prog w) A.in1 (richCompare .Lt (.ref t1) (.ref t2)) Q E ⟨hp,g,d,tk,os⟩:=λE Q q=>HT.lt_tupInts a1 c1 a2 c2 (by lia) q;wp_walk using hri;lia
  case fin=>
   rintro⟨b1,b2⟩ s' ⟨tW,rfl,vs,ws,md,C1,hz,QL,hwi,iw,hR⟩;subst tW;have hv:iT md C1=decide (items.size<eE.size):=by
    cases QL with
    |nil=>
     cases hwi with
     |nil=>
      exact (hV (by lia)).symm
     |cons c u hw=>
      simp only[ł,Ù] at iw;exact (hJ (by lia)).symm
    |cons a t hv=>
     cases hwi with
     |nil=>
      simp only[ł] at iw;exact (hV (by lia)).symm
     |cons c u hw=>
      cases hz
   rw[hv] at hR;wp_walk;exact⟨_,rfl,by simpa [Builtin.Tuple.tupleCompareSizes] using hR⟩
  case h=>
   exact⟨rfl,rfl,items.toList,eE.toList,ns,ms,rfl,hi,hj,by lia,h⟩
end
section
variable {A:Ð}
theorem P4 {l:I}{ns ms:List (List Int)}(hl:jG s.heap l ns)(hb:jG s.heap b ms)(hu:A.units+9<Ò)(h:Q (.bool (iT ns ms)) s):Á (Ä prog w) A (ă .Lt (.ref l) (.ref b)) Q E s:=by
 obtain⟨i1,⟨⟨cls,dd,data,sl⟩,ho,hc,n,hd⟩,t1⟩:=hl;obtain⟨i2,⟨⟨cls2,Hh,data2,JL⟩,ho2,hc2,n2,C0⟩,t2⟩:=hb;subst hc hd hc2 C0;exact richCompare_meets_room (op:=.Lt) ⟨_,ho,rfl⟩ ⟨_,ho2,rfl⟩ PySem.F.slot_tuple_lt PySem.F.entry_tuple_lt (PySem.F.args_tuple_lt_2 _ _) (w_ l b _ _ n n2 dd Hh sl JL ns ms)
  ⟨by lia,t1,t2,ho,ho2,⟨(λx=>nomatch x),h⟩⟩ (by lia)
theorem Mz {vs:List d}(t:iG h vs eW):L2.KIss h (eW.map L2.rowU) vs:=by
 have ik:∀{vs:List d} {ns:List Int},ü vs ns->L2.KIss h (ns.map L2.U.int) vs:=by
  intro vs ns i
  induction i with
  |nil=>rfl
  |cons n t _ ih=>exact⟨_,_,rfl,by exact⟨t,rfl⟩,ih⟩
 induction t with
 |nil=>rfl
 |cons a i _ ih=>exact⟨_,_,rfl,by exact⟨_,_,rfl,a,ik i⟩,ih⟩
theorem Sa (eW:List (List Int)):L2.dpK (L2.trU eW)<=2:=by
 have h1:∀ns:List Int,L2.dpKs (ns.map L2.U.int)<=0:=by
  intro ns
  induction ns with
  |nil=>simp[L2.dpKs]
  |cons n ns ih=>rw[Ç];unfold L2.dpKs L2.dpK;lia
 have h2:∀eW:List _,L2.dpKs (eW.map L2.rowU)<=1:=by
  intro eW
  induction eW with
  |nil=>simp[L2.dpKs]
  |cons n ns ih=>
   grind[L2.dpK,L2.rowU,Ç,L2.dpKs]
 unfold L2.trU L2.dpK;have:=h2 eW;lia
theorem P5 {l:I}{ns ms:List (List Int)}{Q:Bool->À->Prop}(hl:jG s.heap l ns)(hb:jG s.heap b ms)(hu:A.units+9<Ò)(h:Q (decide (ns=ms)) s):Á (Ä prog w) A (eqBool (.ref l) (.ref b)) Q E s:=by
 obtain⟨i1,t1,u1⟩:=hl;obtain⟨i2,t2,u2⟩:=hb;refine L2.eq_K 2 (L2.trU ns) (L2.trU ms) _ _ A (Sa _) (by lia) ?_ ?_ prog w E Q ?_
 ·exact⟨_,_,rfl,t1,Mz u1⟩
 ·exact⟨_,_,rfl,t2,Mz u2⟩
 ·have e:decide (L2.trU ns=L2.trU ms)=decide (ns=ms):=by
   rw[ļ,decide_eq_true_eq,decide_eq_true_eq];refine⟨λh=>?_,λh=>by rw[h]⟩;refine (List.map_inj_right λa b h=>?_).mp (L2.tup_inj.mp h);exact (List.map_inj_right λa b h=>by cases h;rfl).mp (L2.tup_inj.mp h)
  rw[e];exact h
def mR (h:É)(a:I)(ns:List (List Int)):Prop:=∃t b c,h.IsTuple a #[.ref t,.ref b,.ref c]/\jG h t ns
theorem mR.keep {ns:List (List Int)}(x:mR h a ns)(k:∀b o,h.get? b=J o->h'.get? b=J o):mR h' a ns:=by
 obtain⟨t,b,c,⟨o,e,r⟩,n⟩:=x;exact⟨t,b,c,⟨o,k _ _ e,r⟩,n.keep k⟩
theorem MA {h0:É}{bs:List I}{kf:I->List (List Int)}(hu:A.units+9<Ò)(at_:∀a∈bs,mR h0 a (kf a))(inj:∀a∈bs,∀c∈bs,kf a=kf c->a=c)(keep:∀b o,h0.get? b=J o->s.heap.get? b=J o)
  {key:æ->List (List Int)} (QP:∀x:æ,∀a∈bs,x.1=.ref a->key x=kf a):JI (Ä prog w) A E s Ec key (tuples' M) (λx=>∃a∈bs,x.1=.ref a) where
 lt:=λx y st Q dx dy kd q=>by
  obtain⟨a,ha,e1⟩:=dx;obtain⟨c,hc,e2⟩:=dy;rw[QP x a ha e1,QP y c hc e2] at q;obtain⟨t1,b1,c1,u1,v1⟩:=(at_ a ha).keep keep;obtain⟨t2,b2,c2,u2,v2⟩:=(at_ c hc).keep keep;rw[lt'_eq];refine î (wpS_get ?_);rw[kd,e1,e2];have u1':=u1;have u2':=u2;obtain⟨o1,g1,_,n1,d1⟩:=u1;obtain⟨o2,g2,_,n2,d2⟩:=u2;refine î (wpS_lift (Ě (kat_lt g1 d1 g2 d2 ?_)));refine kat_cons (P5 v1 v2 hu ?_);by_cases hk:kf a=kf c
  ·have hac:=inj a ha c hc hk;subst hac;rw[hJ hk];obtain⟨_,z1,_,_,z2⟩:=u1';obtain⟨_,z3,_,_,z4⟩:=u2';rw[z1] at z3;cases z3;rw[z2] at z4;cases z4;refine kat_cons (Gh (kat_yes (kat_cons (Gh (kat_yes (kat_nil ⟨rfl,?_⟩))))));rw[show Ec.blt (kf a) (kf a)=M from kG _] at q;exact Ć q
  ·rw[hV hk];exact kat_no (kat_one _ _ (P4 v1 v2 hu ⟨rfl,Ć q⟩))
theorem I0 {bs:List I}{Q:ŏ->À->Prop}(h2:2<=bs.length)(at_:∀a∈bs,∃ns,mR s.heap a ns)(q:Q (tuples' M) s):Á (Ä prog w) A (keyKind' (bs.map Value.ref).toArray) Q E s:=by
 have kt:∀l:List I,(∀a∈l,∃ns,mR s.heap a ns)->∃fs,KatTups s.heap (l.map Value.ref) fs/\fs.length=l.length/\∀f∈fs,∃t aH,f=.ref t/\s.heap.IsTuple t aH:=by
  intro l
  induction l with
  |nil=>exact λ_=>⟨[],.nil,rfl,λf hf=>by cases hf⟩
  |cons a l ih=>
   intro h;obtain⟨fs,k1,k2,k3⟩:=ih λc hc=>h c (Ö _ hc);obtain⟨ns,t,b,c',⟨o,e,c,n,d⟩,aH,v,_⟩:=h a Ï;refine⟨.ref t::fs,.cons e c d rfl k1,by rw[Ù,Ù,k2],λf hf=>?_⟩;rcases Ø.mp hf with rfl|hf
   ·exact⟨t,aH,rfl,v⟩
   ·exact k3 f hf
 obtain⟨fs,k1,k2,k3⟩:=kt bs at_;refine kat_kind (T:=.type "tuple") k1 (by lia) (λv hv=>?_) (by decide) q;obtain⟨t,aH,rfl,o,e,c,_⟩:=k3 v hv;rw[<-c];exact (Looks.ld e).andThen .now
end
end Hc.Ts
namespace L2
open Hc.Dw Hc.Ts
def jf (H:Hp)(b:I):List (List Int):=match H b with
 |some (.tup (.ref t::_))=>Ur H t
 |_=>[]
def GB (H:Hp)(b:I):Prop:=∃t x y,H b=J (.tup [.ref t,.ref x,.ref y])/\Gs H t (jf H b)
def MB (K:È):List V->Hp->VK->Prop:=λxs H Q=>∃(p:I) (bs:List I),xs=[.ref p]/\fG K H p (bs.map V.ref)/\bs.length<64/\(∀b∈bs,GB H b)/\(bs.map (jf H)).Nodup/\
  ∀(l:I) (lV:List I),H l=L->lV.Perm bs->lV.Pairwise (λx y=>iT (jf H y) (jf H x)=M)->Q (.ref l) (bc H l (.lst (lV.map V.ref)))
theorem yC (I:aO X pins Y H s)(h:GB H b):mR s.heap b (jf H b):=by
 obtain⟨t,x,y,h1,h2⟩:=h;obtain⟨_,aH,rv,it,_⟩:=I.hok b _ h1;have e:=fO (bs:=[t,x,y]) rv;subst e;exact⟨t,x,y,it,IM I h2⟩
theorem Ek (hc:X.calm=Z)(hu:X.A.units+64<Ò):eS X (.builtin "sorted") (MB X.K):=by
 intro pins s Y H xs us Q I r h;obtain⟨p,bs,rfl,hs,hz,tu,nd,q⟩:=h;obtain⟨u,rfl,rx⟩:=i7 r;cases rx;have CW:bs.length<=Å:=by rw[Ĕ];lia
 refine vn (O:=Ec) (jf H) (tuples' M) I hz hu (λA E r_ s6 Q6 JD h2 k6 q6=>?_) (λ_ A E s6 hA k6=>?_) (λQ E hq=>PM hc I (.inl hs) CW Q E hq) q
 ·exact I0 h2 (λa ha=>⟨_,(yC I (tu a (JD.mem_iff.mp ha))).keep k6⟩) q6
 ·exact MA (by lia) (λa ha=>yC I (tu a ha)) (yu nd) k6 (λx a _ e=>by rw[e];rfl)
def B0 (p:List (List Int)×List U×List U):U:=.tup [trU p.1,.tup p.2.1,.lst p.2.2]
def GC:U->Option (List (List Int)×List U×List U)
 | .tup [.tup ks,.tup us,.lst rs]=>(kH ks).map λns=>(ns,us,rs)
 |_=>L
def qb:List U->Option (List (List (List Int)×List U×List U))
 | []=>J []
 |u::us=>match GC u,qb us with
  |some p,J ps=>J (p::ps)
  |_,_=>L
noncomputable def mC (ps:List (List (List Int)×List U×List U))(k:List (List Int)):List U×List U:=(ps.lookup k).getD ([],[])
def rP (ps:List (List (List Int)×List U×List U)):List (List (List Int)×List U×List U):=(Gp Ec (ps.map (·.1))).map λk=>(k,mC ps k)
def vH:List U->R U:=λus=>match us with
 | [.lst xs]=>match qb xs with
  |some ps=>if ps.length<64/\(ps.map (·.1)).Nodup then .ok (.lst ((rP ps).map B0)) else .stk
  |none=>.stk
 |_=>.stk
theorem MC {p:List (List Int)×List U×List U}(h:GC u=J p):u=B0 p:=by
 unfold GC at h;split at h
 ·rename_i ks us rs;cases e:kH ks with
  |none=>grind
  |some ns=>
   grind[B0,trU,yz]
 ·cases h
theorem yD:∀{us:List U} {ps:List (List (List Int)×List U×List U)},qb us=J ps->us=ps.map B0
 | [],ps,h=>by cases h;rfl
 |u::us,ps,h=>by
  unfold qb at h;split at h
  ·rename_i p ps' e1 e2;cases h;rw[Ç,<-MC e1,<-yD e2]
  ·cases h
theorem P6 {p:List (List Int)×List U×List U}(h:Rp K H A (B0 p) v):∃b,v=.ref b/\GB H b/\jf H b=p.1:=by
 obtain⟨b,xs,rfl,q,l,r⟩:=h;obtain⟨v1,r1,rfl,p1,r⟩:=r;obtain⟨v2,r2,rfl,p2,r⟩:=r;obtain⟨v3,r3,rfl,p3,r⟩:=r;subst r;obtain⟨t,rfl,ht⟩:=XI p1;obtain⟨x,ys,rfl,_⟩:=p2;obtain⟨y,zs,rfl,_⟩:=p3;have k:jf H b=p.1:=by unfold jf;rw[q];exact PL ht
 exact⟨b,rfl,⟨t,x,y,q,by lia⟩,k⟩
theorem yE {H:Hp}{A:I->Prop}:∀{ps:List (List (List Int)×List U×List U)} {xs:List V},aP K H A (ps.map B0) xs->∃bs:List I,xs=bs.map V.ref/\bs.map (jf H)=ps.map (·.1)/\(∀b∈bs,GB H b)/\
  ((ps.map (·.1)).Nodup->∀b∈bs,Rp K H A (B0 (jf H b,mC ps (jf H b))) (.ref b))
 | [],xs,h=>by subst h;simp
 |p::ps,xs,h=>by
  obtain⟨x,r,rfl,h1,h2⟩:=h;obtain⟨b,rfl,b2,b3⟩:=P6 h1;obtain⟨bs,rfl,c2,c3,c4⟩:=yE h2;refine⟨b::bs,rfl,by grind,λc hc=>?_,λnd c hc=>?_⟩
  ·grind
  ·rw[Ç] at nd;obtain⟨n1,n2⟩:=ø.mp nd;rcases Ø.mp hc with rfl|hc
   ·have e:mC (p::ps) (jf H c)=p.2:=by unfold mC;grind
    rw[e,b3];exact h1
   grind[jf,ÿ,mC,Ŷ]
theorem I_:lY K (MB K) .O vH:=λA H vs us z Q h mu e q=>by
 unfold vH at e;split at e
 ·split at e
  ·rename_i ps e1;split at e
   ·rename_i hl;cases e;obtain⟨v,rfl,p⟩:=h.one;obtain⟨a,ys,rfl,h1,l1,r1⟩:=p;have e2:=yD e1;subst e2;obtain⟨bs,rfl,c2,c3,c4⟩:=yE r1;have ln:=by have:=congrArg γ c2;simpa using this
    refine⟨a,bs,rfl,fG.of h1,by lia,c3,by rw[c2];exact hl.2,λl lV hn hp hw=>?_⟩;have e7:lV.map (jf H)=Gp Ec (ps.map (·.1)):=BV (O:=Ec) ((hp.map (jf H)).trans (by rw[c2];exact (mQ (O:=Ec) _).symm)) (Χ.mpr hw) (BU _);refine q _ _ (cY hn _) ⟨l,rfl,hn,?_⟩;have e8:(rP ps).map B0=lV.map λb=>B0 (jf H b,mC ps (jf H b)):=by
     unfold rP;rw[<-e7,ñ,ñ];rfl
    rw[e8];refine dh mu ?_ hn ?_
    ·have all:=λb hb=>c4 hl.2 b (hp.mem_iff.mp hb);clear hw e7 e8 hp
     induction lV with
     |nil=>exact aP.nil
     |cons b lV ih=>exact aP.cons (all b Ï) (ih λc hc=>all c (Ö _ hc))
    ·have:Å=16777216:=rfl;rw[Ê,hp.length_eq];lia
   ·cases e
  ·cases e
 ·cases e
end L2
namespace Hc.Dw
def xb:typeLookup (.type "tuple") "keys"=pure L:=by kernel_rfl
section
variable {A:Ð}{o:Obj}
def xc {g:Array GenState}{d:Drawn}{t:Nat}{os:OsState}{tk:Tok}{xs:Array Ì}{Q:Fin->À->Prop}(hx:h.get? a=J {cls:=.type "tuple",data:=.seq xs n})(hh:A.handled=L)(hE:∀h' t' e,Heap.NewAttrErr h h' e (.ref a) "keys"->E (.ref e) ⟨h',g,d,t',os⟩):Á (Ä prog w) A (Builtin.«object.__getattribute__» ⟨[.ref a,.str "keys" tk],[]⟩) Q E ⟨h,g,d,t,os⟩:=by
 have f4:=xb
 repeat (any_goals (first|assumption|wp_step))
 exact wpAny_raiseAttrError hh hE
theorem P7 {xs:Array Ì}{Q:Option Ì->À->Prop}(hx:s.heap.get? a=J {cls:=.type "tuple",data:=.seq xs n})(hh:A.handled=L)(q:∀h' tk,(∀b o,s.heap.get? b=J o->h'.get? b=J o)->Q L {s with heap:=h',toks:=tk}):Á (Ä prog w) A (getAttr? (.ref a) "keys") Q E s:=by
 obtain⟨hp,g,d,tk,os⟩:=s;have hT:∀YS,(⟨hp,g,d,YS,os⟩:À).TypeIs (.ref a) "tuple":=λ_=>⟨_,hx,rfl⟩;have f1:=sub_AttributeError;have f3:=F.slot_tuple_getattribute.lookup;have f4:=F.slot_tuple_getattribute.bind (.ref a);have f5:=am_tuple_getattr_none
 repeat (any_goals (first|assumption|exact hT _|(fail)|wp_step))
 refine codeAny_call_builtin F.slot_tuple_getattribute.plain am_entry_tuple_getattribute (F.slot_tuple_getattribute.check _ _ _ _ _ _ _ _ (hT _) (F.args_tuple_getattribute_2 _ _) (xc hx hh λh' t' e ne=>?_));obtain⟨t2,u2,he⟩:=ne.there
 repeat (any_goals (first|assumption|wp_step))
 exact q _ _ ne.keeps
end
end Hc.Dw
namespace Hc.Dw
section
open PySem.W PyProof.Rows L2
variable {A:Ð}{d l:I}
theorem MD {h0:É}{vs:List Ì}{es:List (List U×I×Ì)}{R:Result->À->Prop}(hh:A.handled=L)(hu:A.units+40<Ò)(hl:h0.IsTuple l vs.toArray)(hp:∀(i:Nat) v,vs[i]? = J v->∃e,es[i]? = J e/\Ea h0 v e)(n:vs.length=es.length)(hz:es.length<=1000000)
  (nt:∀b aH,h0.IsTuple b aH->b≠d/\b≠it) (nl:l≠d/\l≠it) (nd:d≠it) :
  ∀(m i:Nat) (s:À),es.length-i=m->i<=es.length->s.heap.IsTupleIter it l i->s.heap.DictOfH (i_ prog w) d (fU [] (es.take i))->(∀b o,b≠d->b≠it->h0.get? b=J o->s.heap.get? b=J o)->(fU [] (es.take i)).length<=i->
   (∀h' tk,h'.DictOfH (i_ prog w) d (fU [] es)->(∀b o,b≠d->b≠it->h0.get? b=J o->h'.get? b=J o)->R (.ok (.ret .none)) {s with heap:=h',toks:=tk})->
   codeAny (Ä prog w) A (.builtin "dict.update.loop" ⟨[.ref d,.ref it,rawInt i,.none],[]⟩) R s:=by
 intro m
 induction m with
 |zero=>
  intro i s hm hi st dd kp hle hR;have e:i=es.length:=by lia
  subst e;rw[Ĺ] at dd;have Vt:s.heap.IsTuple l vs.toArray:=by obtain⟨o,q,r⟩:=hl;exact⟨o,kp l o nl.1 nl.2 q,r⟩
  refine Ť my ?_;refine t (wpAny_pyNext_tuple_end hh st Vt (by simp;lia) λh' eb=>?_);refine t (Â (Â ?_));refine hR h' s.toks ?_ λb o b1 b2 z=>eb b o b2 (kp b o b1 b2 z);obtain⟨o,ds,ep,q1,q2,q3,q4,q5,q6⟩:=dd;obtain⟨oi,i1,i2,_⟩:=id st;refine⟨o,ds,ep,eb d o nd q1,q2,q3,q4,λx hx=>TK.keep' (q5 x hx) λc aH tc=>?_,q6⟩;have wV:=Ma tc i1 (by lia);obtain⟨oc,z1,z2⟩:=tc;exact⟨oc,eb c oc wV z1,z2⟩
 |succ m ih=>
  intro i s hm hi st dd kp hle hR;have lt:i<es.length:=by lia
  have Vt:s.heap.IsTuple l vs.toArray:=by obtain⟨o,q,r⟩:=hl;exact⟨o,kp l o nl.1 nl.2 q,r⟩
  have hv:i<vs.length:=by lia
  obtain⟨e,he,T,ev,tT,tk⟩:=hp i vs[i] (á hv);rw[á lt] at he;injection he with he
  have kT:∀b aH,h0.IsTuple b aH->s.heap.IsTuple b aH:=λb aH h00=>by
   obtain⟨o,q,r⟩:=h00;obtain⟨b1,b2⟩:=nt b aH ⟨o,q,r⟩;exact⟨o,kp b o b1 b2 q,r⟩
  refine Ť my ?_;refine t (wpAny_pyNext_tuple_item st Vt (x:=vs[i]) (by simp[hv]) λh1 AB sb1=>?_);obtain⟨oi,i1,i2,_⟩:=id st;have k1:∀b aH,s.heap.IsTuple b aH->h1.IsTuple b aH:=λb aH tb=>by
   have wV:=Ma tb i1 (by lia);obtain⟨oc,z1,z2⟩:=tb;exact⟨oc,sb1.extBut b oc wV z1,z2⟩
  have dd1:h1.DictOfH (i_ prog w) d (fU [] (es.take i)):=by
   obtain⟨o,ds,ep,q1,q2,q3,q4,q5,q6⟩:=dd;exact⟨o,ds,ep,sb1.extBut d o nd q1,q2,q3,q4,λx hx=>TK.keep' (q5 x hx) k1,q6⟩
  rw[ev];have tT1:=k1 _ _ (kT _ _ tT);obtain⟨oT,g1,g2,nT,g3⟩:=id tT1;refine t (õ (t (wpAny_tryCatch ?_)));refine t (wpAny_typeOf ⟨_,g1,g2⟩ ?_);refine t (Ġ g1 g3 (Â ?_));refine õ (wpAny_dictSet_heap (by show A.units+1+20<Ò;lia) (TK.keep' tk λb aH z=>k1 b aH (kT b aH z)) dd1 (λh2 Hh sb2=>?_) (by rw[Ĕ];lia));refine Â ⟨ŵ mz _,?_⟩;have e1:((i:Int)+1)=((i+1:Nat):Int):=by lia
  refine ih (i+1) _ (by lia) (by lia) ?_ ?_ (λb o b1 b2 z=>?_) ?_ λh' YS q1 q2=>hR h' YS q1 q2
  ·obtain⟨o1,s1,s2⟩:=AB;exact⟨o1,sb2.extBut it o1 nd.symm s1,s2⟩
  ·rw[oz lt,he];exact Hh
  ·exact sb2.extBut b o b1 (sb1.extBut b o b2 (kp b o b1 b2 z))
  ·rw[oz lt];exact ą BG (by lia)
end
end Hc.Dw
namespace Hc.Dw
open PySem.W L2
section
variable {A:Ð}{l:I}
theorem El {vs:List d}{n0:Nat}{es:List (List U×I×d)}(hh:A.handled=L)(hu:A.units+64<Ò)(hl:s.heap.get? l=J {cls:=.type "tuple",data:=.seq vs.toArray n0})(hp:∀(i:Nat) v,vs[i]? = J v->∃e,es[i]? = J e/\Ea s.heap v e)(n:vs.length=es.length)(hz:es.length<=1000000)(q:∀h' tk,h'.DictOfH (i_ prog w) s.heap.objs.size (fU [] es)->(∀b o,s.heap.get? b=J o->h'.get? b=J o)->Q (.ref s.heap.objs.size) {s with heap:=h',toks:=tk}) :
  Á (Ä prog w) A (call (.type "dict") [.ref l]) Q E s:=by
 refine callType_codes (Q₁:=λobj s₁=>obj=.ref _/\s₁={s with heap:=s.heap.push _}) F.kt_called_dict (F.kt_typeCall_dict_1 _) PySem.F.entry_dict_init (kt_code_dict_new _ ⟨rfl,rfl⟩) ?_;rintro obj s₁ ⟨rfl,rfl⟩;have od:(s.heap.push _).get? _=J {cls:=.type "dict",data:=.dict #[]}:=Ü _ rfl;have ty:(⟨s.heap.push _,s.gens,s.drawn,s.toks,s.os⟩:À).TypeIs (.ref _) "dict":=⟨_,od,rfl⟩;have ol:(s.heap.push {cls:=.type "dict",data:=.dict #[]}).get? l=J _:=Ó _ hl;refine⟨ty,PySem.F.args_dict_init_2 _ _,?_⟩;refine Ã ?_;refine Ã (Θ ty ?_);refine Â ?_;change Á _ _ (Builtin.Dict.updateFrom _ _ (.ref l) [] .none) _ _ _;refine Ã (wpAny_typeOf ⟨_,ol,rfl⟩ ?_);refine Ã (P7 ol hh λh2 tk k2=>?_);refine Ã (İ (Ã ?_));have l2:h2.IsTuple l _:=⟨_,k2 _ _ ol,rfl,_,rfl⟩;refine wpAny_pyIter_tuple l2 ?_;refine Â ⟨ŵ mz _,?_⟩;have ge:=Ô (k2 _ _ od);have k3:∀b o,s.heap.get? b=J o->(h2.push {cls:=.type "tuple_iterator",data:=.fields #[.ref l,.int 0 0]}).get? b=J o:=λb o z=>Ó _ (k2 b o (Ó _ z));refine MD (A:=A.in1) hh (by lia) ⟨_,hl,rfl,_,rfl⟩ hp n hz (λb aH t=>?_) ?_ ?_ es.length 0 _ (by lia) (ė _) ⟨_,Ü _ rfl,rfl,rfl⟩ ?_ (λb o _ _ z=>k3 b o z) (Ñ _) λh' YS q1 q2=>?_
 ·obtain⟨o,z,_⟩:=t;have:=Ô z;exact⟨Þ this,Þ (Nat.lt_trans this ge)⟩
 ·have:=Ô hl;exact⟨Þ this,Þ (Nat.lt_trans this ge)⟩
 ·exact Þ ge
 ·exact⟨_,#[],0,Ó _ (k2 _ _ od),⟨rfl,rfl,rfl⟩,rfl,rfl,(λx hx=>by cases hx),Ģ⟩
 ·refine⟨rfl,q h' YS q1 λb o z=>?_⟩;have:=Ô z;exact q2 b o (Þ this) (Þ (Nat.lt_trans this ge)) z
end
end Hc.Dw
namespace L2
open Hc.Dw Hc.Ts
def ME:List V->Hp->VK->Prop:=λxs H Q=>∃(p:I) (zs:List V) (es:List (List U×I×V)),xs=[.ref p]/\H p=J (.tup zs)/\zs.length<=1000000/\è (Mi H) zs es/\∀l ep,H l=L->Q (.ref l) (bc H l (DN l ep (gm [] es)))
theorem Em (hc:X.calm=Z)(hu:X.A.units+64<Ò):eS X (.type "dict") ME:=by
 intro pins s Y H xs us Q I r h;obtain⟨p,zs,es,rfl,hp,hz,pr,q⟩:=h;obtain⟨u,rfl,rx⟩:=i7 r;cases rx;obtain⟨_,aH,rv,_,n0,e⟩:=I.hok p _ hp;have n1:=rv.length;obtain⟨ys,p1,n2,at_⟩:=BP I pr rv;refine El (I.ok.hd hc) hu e at_ n2 (by lia) λh' tk dd kp=>?_;have rel:=yv p1 .nil;obtain⟨o,ds,ep,q1,q2,q3,q4,q5,q6⟩:=dd;have ns:=beq_eq_false_iff_ne.mpr (ò I.big);exact⟨.ref _,_,I.laid (o:=DN _ ep _) kp (Ñ _) ⟨⟨ns,o,ds,_,q1,q2,q3,rel,q4⟩,⟨o,q1⟩,λg1 g2 ⟨l,o,ds,xs,z1,z2⟩ kp=>⟨l,o,ds,xs,kp _ z1,z2⟩⟩,rfl,q _ ep (I.hok.fresh (Ñ _))⟩
def qc:List U->R U:=λus=>match us with
 | [.tup ps]=>if ps.isEmpty=M/\ps.length<=1000000 then (match Eb [] [] ps with
  |some (ks,us)=>.ok (.dct ks us)
  |none=>.stk) else .stk
 |_=>.stk
theorem Ja:lY K ME .O qc:=λA H vs us z Q h mu e q=>by
 unfold qc at e;split at e
 ·split at e
  ·rename_i c;split at e
   ·rename_i ks Om e1;cases e;obtain⟨v,rfl,p⟩:=h.one;obtain⟨a,zs,rfl,h1,l1,r1⟩:=p;obtain⟨es,a1,a2,a3,a4,a5,a6,a7⟩:=Mj (fs:=[]) e1 r1 rfl aP.nil Ģ (λe he=>by cases he);have ne:es≠[]:=λz=>by
     grind
    have nz:zs.length<=1000000:=by rw[<-r1.length];exact c.2
    refine⟨a,zs,es,rfl,h1,nz,a1,λl ep hn=>?_⟩;have sm:=cY hn (DN l ep (gm [] es));refine q _ _ sm ⟨l,rfl,hn,?_⟩;refine⟨_,.inr ⟨gm [] es,yw (.inr ne),⟨.inl ⟨ep,aI⟩,a4,λe he=>(a5 e he).to λb ys w=>sm b _ w⟩,a2,rfl⟩,?_,a3.re mu (dP.same sm) λb z=>?_⟩
    ·have n1:=a3.length;grind
    lia
   ·cases e
  ·cases e
 ·cases e
end L2
namespace L2
open Hc.Dw Hc.Ts
theorem vI:∀{vs:List d} {ns:List Int},ü vs ns->∀(i:Nat) (v:d),vs[i]? = J v->∃t,v=.int (ns.getD i 0) t
 |_,_,.nil,i,v,h=>by simp at h
 |_,_,.cons n t r,i,v,h=>by
  cases i with
  |zero=>grind
  |succ i=>
   obtain⟨t',e⟩:=vI r i v (by simpa using h);grind
end L2
namespace L2
open Hc.Dw Hc.Ts
def Sb (K:È):List V->Hp->VK->Prop:=λxs H Q=>∃p n0 ns,xs=[.ref p]/\gR K H p ((n0::ns).map V.int)/\Q (.int (zy n0 ns)) H
theorem Jb (hc:X.calm=Z):eS X (.builtin "max") (Sb X.K):=by
 intro pins s Y H xs us Q I r h;obtain⟨p,n0,ns,rfl,hs,q⟩:=h;obtain⟨u,rfl,rx⟩:=i7 r;cases rx;obtain⟨aH,rv,pl,_⟩:=I.tuple hs;have hI:=fH rv;have sz:aH.toArray.size=ns.length+1:=by rw[å,hI.length];rfl
 have pt:s.heap.IsTuple p aH.toArray:=pl;have lp:p<s.heap.objs.size:=by obtain⟨o,e,_⟩:=pt;exact Ô e
 refine call_max_walk (wpAny_pyIter_tuple pt ?_);refine⟨s.heap.objs.size,[s.heap.objs.size,p],[s.heap.objs.size],aH.toArray.size,_,_,λi j=>decide ((n0::ns).getD i 0>(n0::ns).getD j 0),rfl,Walks.tuple (A:=X.A.in1) (show X.A.in1.handled=L from I.ok.hd hc) _ p (Þ lp) aH.toArray,?_,?_,by rw[sz];lia,?_,?_⟩
 ·obtain⟨o,e,z⟩:=pt;exact⟨⟨_,Ü _ rfl,rfl,rfl⟩,o,Ó _ e,z⟩
 ·intro b hb;rw[Ī];grind
 ·exact CmpOf.ints_gt (λi=>(n0::ns).getD i 0) λi v hv=>vI hI i v (by simpa using hv)
 ·intro v h' tk hv kp;obtain⟨t,rfl⟩:=vI hI (argBest (λi j=>decide ((n0::ns).getD i 0>(n0::ns).getD j 0)) (aH.toArray.size-1)) v (by rw[<-List.getElem?_toArray];exact hv);have k:∀b o,s.heap.get? b=J o->h'.get? b=J o:=λb o e=>kp b o (by
   rw[Ą];exact Þ (Ô e)) (Ó _ e)
  have e:(n0::ns).getD (argBest (λi j=>decide ((n0::ns).getD i 0>(n0::ns).getD j 0)) (aH.toArray.size-1)) 0=zy n0 ns:=by
   rw[sz,Nat.add_sub_cancel,BM ns n0 _ (Ñ _),Ĺ]
  rw[e];exact⟨.int _,H,I.kept (t':=tk) k,⟨t,rfl⟩,q⟩
def GD:List U->R U:=λus=>match us with
 | [.tup xs]=>match fF xs with
  |some (n::ns)=>.ok (.int (zy n ns))
  |_=>.stk
 |_=>.stk
theorem MF:lY K (Sb K) .S GD:=λA H vs us z Q h mu e q=>by
 unfold GD at e;split at e
 ·rename_i xs;split at e
  ·rename_i n ns hb;cases e;obtain⟨v,rfl,p⟩:=h.one;unfold Pk at p;obtain⟨a,ys,rfl,h1,l1,r1⟩:=p;rw[iF hb] at r1;rw[r1.toI] at h1;exact⟨a,n,ns,rfl,gR.of h1,q _ H (aN.refl _) (show Rp K H A _ _ from df)⟩
  ·cases e
 ·cases e
end L2
namespace Hc.Dw
open PySem.W
open Classical in
noncomputable def P8 (h:É)(v:d):L2.U:=if c:∃u,L2.KIs h u v then c.choose else .non
def tM {u:L2.U}{v:d}(k:L2.KIs h u v):P8 h v=u:=by
 unfold P8;rw[dif_pos ⟨u,k⟩];grind[L2.KIs.inj,Exists.choose_spec,L2.KIs]
section
variable {K:Type}[DecidableEq K]{knd:HeapKind prog w K}{A:Ð}
def xf (h:É)(ys:List (K×I×d))(x:K×I×d):Bool:=match atKey ys x.1 with
 |some p=>decide (P8 h x.2.2=P8 h p.2)
 |none=>M
def XN (h:É)(xs:List (K×I×d)):Prop:=∀x∈xs,∃u,L2.KIs h u x.2.2/\L2.dpK u<=3
theorem Eo {nm:String}{xs ys:List (K×I×d)}{Q:Bool->À->Prop}(la:(a==Ă)=M)(lb:(b==Ă)=M)(hu:knd.room A)(da:s.heap.DictOfH knd a xs)(db:s.heap.DictOfH knd b ys)(hv:A.units+9<Ò)(nx:XN s.heap xs)(ny:XN s.heap ys)(h:Q (xs.length==ys.length&&xs.all (xf s.heap ys)) s):Á (Ä prog w) A (Builtin.Dict.samePairs nm a b) Q E s:=by
 obtain⟨oa,es,ep,a1,_,a2,a3,a4,a5⟩:=da;obtain⟨ob,fs,eq,b1,_,b2,b3,b4,b5⟩:=db;have n1:es.size=xs.length:=by rw[<-Ğ,a3,Ê]
 have n2:fs.size=ys.length:=by rw[<-Ğ,b3,Ê]
 have VS:∀i (hi:i<es.size) (hx:i<xs.length),es[i]=entryOfKey knd xs[i]:=λi hi hx=>by
  have e:es.toList[i]? = J es[i]:=by simp
  rw[a3,ç,á hx] at e;injection e with e
  exact e.symm
 have CY:∀(j:Nat) y,ys[j]? = J y->fs[j]? = J _:=λj y e=>by
  rw[<-Α,b3,ç,e];rfl
 unfold Builtin.Dict.samePairs Δ;rw[hZ (by rw[la];exact í),hZ (by rw[lb];exact í)];refine t (Â (t (Â (t (ğ a1 a2 (t (ğ b1 b2 ?_)))))));by_cases c:es.size=fs.size
 ·rw[hZ (by rw[c];simp)];have h' :=by
   have:(xs.length==ys.length)=Z:=by lia
   rw[this] at h;exact h
  refine t (į a1 a2 (t ?_));rw[Std.Legacy.Range.forIn_eq_forIn_range'];refine wpAny_forIn_list _ (λl q s'=>s'=s/\q=(L,())/\∃i,l=List.range' i (es.size-i)/\i<=es.size/\xs.all _=(xs.drop i).all (xf s.heap ys)) _ ?_ ?_ _ _ ⟨rfl,rfl,0,by simp,ė _,rfl⟩
  ·rintro k l q s' ⟨rfl,rfl,i,hl,hi,ha⟩;have lt:i<es.size:=by
    grind
   obtain⟨m,hm⟩:∃m,es.size-i=m+1:=⟨es.size-(i+1),by lia⟩;rw[hm] at hl;injection hl with e1 e2
   subst e1;have hx:k<xs.length:=by rw[<-n1];exact lt
   refine t (ğ a1 a2 ?_);rw[Ů lt];rw[VS k lt hx];rw[Ķ hx,ĺ] at ha;obtain⟨u1,en,dn⟩:=nx xs[k] (ĩ hx);refine t (õ (t (wpAny_dictFind_heap hu (a4 _ (ĩ hx)) b1 b2 b3 b4 b5 (λno=>?_) λj p hj=>?_)))
   ·have e:xf s'.heap ys xs[k]=M:=by unfold xf;rw[atKey_none_of_get no]
    rw[e] at ha;rw[ha] at h';refine Â ?_;exact Â (Â h')
   ·have Zj:=CY j _ hj;obtain⟨u2,em,dm⟩:=ny _ (Ċ hj);have e:xf s'.heap ys xs[k]=decide (u1=u2):=by
     unfold xf;rw[atKey_of_get b5 hj];dsimp only;rw[tM en,tM em]
    rw[e] at ha;refine t (ğ b1 b2 ?_);rw[Zj];refine õ (L2.eq_K 3 u1 u2 _ _ A dn (by lia) en em prog w _ _ ?_);cases z:decide (u1=u2) with
    |false=>
     rw[z] at ha;rw[ha] at h';exact Â (Â h')
    |true=>
     rw[z] at ha;refine t (į a1 a2 ?_);rw[hZ (by simp)];exact Â ⟨rfl,rfl,k+1,by grind,lt,ha⟩
  ·rintro q s' ⟨rfl,rfl,i,hl,hi,ha⟩;grind[Nat.lt_or_ge,ş,Â]
 ·rw[h_ (by simpa using c)];grind[t,İ,Â]
theorem neK {xs ys:List (K×I×d)}(la:(a==Ă)=M)(lb:(b==Ă)=M)(hu:knd.room A.in1)(hc:A.units<Ò)(da:s.heap.DictOfH knd a xs)(db:s.heap.DictOfH knd b ys)(hv:A.units+19<Ò)(nx:XN s.heap xs)(ny:XN s.heap ys)(h:Q (.bool (!(xs.length==ys.length&&xs.all (xf s.heap ys)))) s):Á (Ä prog w) A (ă .NotEq (.ref a) (.ref b)) Q E s:=by
 refine wpAny_richCompare_same_room (op:=.NotEq) da.typeIs db.typeIs PySem.F.slot_dict_ne (û PySem.F.slot_dict_ne da.typeIs PySem.F.entry_dict_ne ?_ (PySem.F.args_dict_ne_2 _ _)) hc;refine t ?_;refine Â (t (ň db.typeIs PySem.F.sub_dict_dict ?_));refine t (Â (t (Â (t (Eo la lb hu da db (by lia) nx ny (Â ⟨_,rfl,(?_:_/\_)⟩))))));simp_all
end
end Hc.Dw
namespace L2
open Hc.Dw Hc.Ts
def B1:U->U->R U:=λu w=>match u,w with
 | .dct ks us,.dct ls ws=>if (rJ ks&&rJ ls&&us.all (λu=>fE u&&decide (dpK u<=3))&&ws.all (λu=>fE u&&decide (dpK u<=3)))=Z then .ok (.bl (!Mh ks us ls ws)) else .stk
 |_,_=>.stk
noncomputable abbrev sy (es:List (List U×I×V)):List U:=es.map λp=>.tup p.1
def VJ (H:Hp)(u:U)(e:List U×I×V):Prop:=KH H u e.2.2/\dpK u<=3
def Sd:R2:=λx y H Q=>∃a b es fs us ws,x=.ref a/\y=.ref b/\dR H a es/\dR H b fs/\è (VJ H) us es/\è (VJ H) ws fs/\Q (.bl (!Mh (sy es) us (sy fs) ws)) H
theorem GF {P:ó}{w:â}{H:Hp}{h:É}(ok:jZ P w H h)(k:List U):∀{ws:List U} {fs:List (List U×I×V)} {ys:List (List U×I×d)},è (VJ H) ws fs->è HN fs ys->
  (∀p,atKey ys k=J p->∃w,bR (sy fs) ws (.tup k)=J w/\KIs h w p.2)/\(atKey ys k=L->bR (sy fs) ws (.tup k)=L)
 |_,_,_,.nil,.nil=>⟨λp e=>(by cases e),λ_=>rfl⟩
 |u::ws,f::fs,y::ys,.cons r t,.cons r' t'=>by
  have ih:=GF ok k t t';have e1:atKey (y::ys) k=if y.1=k then J y.2 else atKey ys k:=by
   unfold atKey;rw[Ŝ];by_cases c:y.1=k
   ·rw[hJ c,h_ c];rfl
   ·rw[hV c,hZ c]
  have e2:bR (sy (f::fs)) (u::ws) (.tup k)=if f.1=k then J u else bR (sy fs) ws (.tup k):=by
   simp[bR,sy,h_,hZ]
  rw[e1,e2,r'.1];by_cases c:y.1=k
  ·rw[h_ c,h_ c];exact⟨λp e=>(by cases e;exact⟨u,rfl,r.1.is ok r'.2.2⟩),λe=>(by cases e)⟩
  ·rw[hZ c,hZ c];exact ih
theorem MG {P:ó}{w:â}{H:Hp}{h:É}(ok:jZ P w H h){ws:List U}{fs:List (List U×I×V)}{ys:List (List U×I×d)}(pw:è (VJ H) ws fs)(pf:è HN fs ys):∀{us:List U} {es:List (List U×I×V)} {xs:List (List U×I×d)},è (VJ H) us es->è HN es xs->
  xs.all (xf h ys)=((sy es).zip us).all (Mg (sy fs) ws)/\XN h xs
 |_,_,_,.nil,.nil=>⟨rfl,λx hx=>by cases hx⟩
 |u::us,e::es,x::xs,.cons r t,.cons r' t'=>by
  obtain⟨i1,i2⟩:=MG ok pw pf t t';have k1:=r.1.is ok r'.2.2;refine⟨?_,λz hz=>?_⟩
  ·show (xf h ys x&&xs.all _)=(Mg (sy fs) ws (.tup e.1,u)&&((sy es).zip us).all _);congr 1;obtain⟨a1,a2⟩:=GF ok x.1 pw pf;unfold xf Mg;rw[r'.1];cases c:atKey ys x.1 with
   |none=>rw[a2 c]
   |some p=>
    obtain⟨w',b1,b2⟩:=a1 p c;rw[b1];dsimp only;rw[tM k1,tM b2];lia
  ·rcases Ø.mp hz with rfl|hz
   ·exact⟨u,k1,r.2⟩
   ·exact i2 z hz
theorem P9 (hu:X.A.units+64<Ò):kh X (ă .NotEq) Sd:=by
 intro pins s Y H x y v u Q I rx ry h;obtain⟨a,b,es,fs,us,ws,rfl,rfl,da,db,pu,pw,q⟩:=h;cases rx;cases ry;obtain⟨xs,p1,d1⟩:=da.of I.hok;obtain⟨ys,p2,d2⟩:=db.of I.hok;have l1:=ő p1;have l2:=ő p2;obtain⟨h1,k1⟩:=MG I.hok pw p2 pu p1;obtain⟨_,k2⟩:=MG I.hok pw p2 pw p2;refine neK (da.lo I.hok) (db.lo I.hok) (uo hu) (by lia) d1 d2 (by lia) k1 k2 ⟨.bl _,H,I,rfl,?_⟩;simp_all[Mh,sy,Ê]
theorem MJ {H:Hp}{A:I->Prop}:∀{us:List U} {es:List (List U×I×V)},us.all (λu=>fE u&&decide (dpK u<=3))=Z->aP K H A us (es.map (·.2.2))->è (VJ H) us es
 | [],[],_,_=>.nil
 | [],e::es,_,h=>by cases h
 |u::us,[],_,h=>by obtain⟨_,_,e,_⟩:=h;cases e
 |u::us,e::es,c,h=>by
  obtain⟨v,r,e1,h1,h2⟩:=h;injection e1 with e1 e2
  subst e1 e2;rw[ĺ,ß,ß,decide_eq_true_eq] at c;refine .cons ⟨Q9 ?_ h1,c.1.2⟩ (MJ c.2 h2);have c1:=c.1.1;cases u<;>first|(cases c1)|skip
  unfold fE at c1;rw[ß] at c1;exact c1.1
theorem MK:fK K Sd .S B1:=λA H x y u w z Q hx hy mu e q=>by
 unfold B1 at e;split at e
 ·rename_i ks us ls ws;split at e
  ·rename_i c;cases e;rw[ß,ß,ß] at c;obtain⟨⟨⟨c1,c2⟩,c3⟩,c4⟩:=c;obtain⟨a,xs,rfl,d1,_,r1⟩:=hx;obtain⟨b,ys,rfl,d2,_,r2⟩:=hy;have nat:∀{a:I} {ks:List U} {xs:List V},rJ ks=Z->xW H a ks xs->∃es,dR H a es/\ks=es.map (λp=>.tup p.1)/\xs=es.map (·.2.2):=by
    intro a ks xs w d;rcases d with⟨aV,h,rfl,rfl⟩|⟨es,n,h,e1,e2⟩
    ·obtain⟨es,ep,q1,_⟩:=zp w (.inl ⟨aV,h,rfl,rfl⟩);rw[h] at q1;cases q1
    ·exact⟨es,h,e1,e2⟩
   obtain⟨es,n1,f1,g1⟩:=nat c1 d1;obtain⟨fs,n2,f2,g2⟩:=nat c2 d2;rw[g1] at r1;rw[g2] at r2;refine⟨a,b,es,fs,us,ws,rfl,rfl,n1,n2,MJ c3 r1,MJ c4 r2,q _ H (aN.refl _) (show Rp K H A _ _ from ?_)⟩;rw[f1,f2];exact gx
  ·cases e
 ·cases e
end L2
noncomputable section
namespace Hc
open PySem L2
noncomputable abbrev mS:Gm:=⟨[M,M,M],M,λ_=>False⟩
def eO:Ev->SR:=(aJ (ba 0 (iA Ib (ag (ah 0) ar)))
 (aJ (ba 1 (iA Ib (ag (ah 1) ar)))
 (aJ (jz (gB (aS (je not) (ah 1) (gC (.int 0))))
 (aJ (ba 2 (aS su (ah 0) (ah 1)))
 (aJ (ba 0 (ah 1))
 (ba 1 (ah 2)))) 1000000000000000)
 (bb (ah 0)))))
def du:List U->R U:=bD .S 3 eO
noncomputable abbrev P_:Gm:=⟨[M,M,M],M,λ_=>False⟩
def zC:Ev->SR:=(aJ (ba 2 (bq 2 du (ag (ah 0) (ag (ah 1) ar))))
 (aJ (pE (gB (aS Y3 (ah 1) (gC (.int 0)))) (ba 2 (gT O_ (ah 2))) cA)
 (bb (aU (ag (aS qU (ah 0) (ah 2)) (ag (aS qU (ah 1) (ah 2)) ar))))))
def gG:List U->R U:=bD .S 3 zC
noncomputable abbrev Uz:Gm:=⟨[M,M],M,λ_=>False⟩
def Ep:Ev->SR:=(bb (bq 2 gG (ag (aS dk (aS eI (aS cv (ah 0) (gC (.int 0))) (aS cv (ah 1) (gC (.int 1)))) (aS eI (aS cv (ah 1) (gC (.int 0))) (aS cv (ah 0) (gC (.int 1))))) (ag (aS eI (aS cv (ah 0) (gC (.int 1))) (aS cv (ah 1) (gC (.int 1)))) ar))))
def cE:List U->R U:=bD .S 2 Ep
noncomputable abbrev Qa:Gm:=⟨[M,M],M,λ_=>False⟩
def GG:Ev->SR:=(bb (bq 2 gG (ag (aS eI (aS cv (ah 0) (gC (.int 0))) (aS cv (ah 1) (gC (.int 0)))) (ag (aS eI (aS cv (ah 0) (gC (.int 1))) (aS cv (ah 1) (gC (.int 1)))) ar))))
def zD:List U->R U:=bD .S 2 GG
noncomputable abbrev UA:Gm:=⟨[M,M],M,λ_=>False⟩
def Er:Ev->SR:=(bb (bq 2 gG (ag (aS eI (aS cv (ah 0) (gC (.int 0))) (aS cv (ah 1) (gC (.int 1)))) (ag (aS eI (aS cv (ah 0) (gC (.int 1))) (aS cv (ah 1) (gC (.int 0)))) ar))))
def mT:List U->R U:=bD .S 2 Er
noncomputable abbrev Es:Gm:=⟨[M,M],M,λ_=>False⟩
def mU:Ev->SR:=(bb (iA fh (ag (fL (d_ (ah 1)) [L,J 0] (bo 0) dN (aS cv (ah 1) (ah 0))) ar)))
def eQ:List U->R U:=bD .S 2 mU
noncomputable abbrev Jc:Gm:=⟨[M,Z,M],M,λ_=>False⟩
def vJ:Ev->SR:=(iQ 1 (aS dk (iP 1 (ah 2) (gC (.int 0))) (gC (.int 1))) (ah 2))
def qd:Ev->SR:=(aJ (ba 1 Pf)
 (aJ (ff (d_ (ah 0)) (bo 2)
 vJ)
 (bb (ah 1))))
def lF:List U->R U:=bD .O 3 qd
noncomputable abbrev ML:Gm:=⟨[M,M,Z,M,M,M,M,M],M,λ_=>False⟩
def qe:Ev->SR:=(aJ (ba 7 (bq 2 eQ (ag (ah 5) (ag (ah 3) ar))))
 (iQ 2 (aS dk (iP 2 (ah 7) (gC (.int 0))) (aS eI (ah 6) (ah 4))) (ah 7)))
def lG:Ev->SR:=(ff (LW (ah 0)) (cg 2 (aD (bo 5) (aD (bo 6) bO)))
 qe)
def vK:Ev->SR:=(aJ (ba 2 Pf)
 (aJ (ff (LW (bq 1 lF (ag (ah 1) ar))) (cg 2 (aD (bo 3) (aD (bo 4) bO)))
 lG)
 (bb (ah 2))))
def oH:List U->R U:=bD .O 8 vK
noncomputable abbrev B2:Gm:=⟨[M,M,M,Z,M,M,M,M],M,λ_=>False⟩
def zE:Ev->SR:=(nX 3 (ah 7) (ah 6))
def zF:Ev->SR:=(ff (sx (ag (ah 4) (ag (aS cv (ah 1) (ah 5)) ar))) (cg 2 (aD (bo 6) (aD (bo 7) bO)))
 zE)
def rQ:Ev->SR:=(aJ (ba 3 (x_ (ag (ah 0) ar)))
 (aJ (ff (sx (ag (ah 1) (ag (ah 2) ar))) (cg 2 (aD (bo 4) (aD (bo 5) bO)))
 zF)
 (bb (iA fh (ag (ah 3) ar)))))
def rR:List U->R U:=bD .S 8 rQ
noncomputable abbrev kI:Gm:=⟨[M,Z,M,M],M,λ_=>False⟩
def fj:Nat->Ev->SR
 |0=>λ_=>.stk
 |n+1=>let r_arrangements:=bD .O 4 (fj n)
  (aJ (pE (gB (aS (je id) (iA gF (ag (ah 0) ar)) (gC (.int 0)))) (bb (eZ (ag (aU ar) ar))) cA)
 (aJ (ba 1 (eZ ar))
 (aJ (ff (d_ (ah 0)) (bo 2)
 (aJ (ba 3 (fL (d_ (ah 0)) [L,J 2] (bo 0) (gB (aS (je not) (ah 0) (ah 1))) (ah 0)))
 (uw (gM "list" 1 jD (ag (fL (d_ (bq 1 r_arrangements (ag (ah 3) ar))) [L,J 2] (bo 0) dN (aS dk (aU (ag (ah 1) ar)) (ah 0))) ar)))))
 (bb (ah 1)))))
def kJ (n:Nat):List U->R U:=bD .O 4 (fj n)
noncomputable abbrev Et:Gm:=⟨[M,M],M,λ_=>False⟩
def vL:Ev->SR:=(aJ (pE (gB (aS VC (iA gF (ag (ah 1) ar)) (gC (.int 4)))) (λ_=>.exc "TooMany" .non) cA)
 (bb (iA fh (ag (fL (d_ (bq 1 (kJ 20) (ag (x_ (ag (iA gF (ag (ah 1) ar)) ar)) ar))) [L,J 0,J 1] (bo 0) dN (bq 3 rR (ag (ah 1) (ag (ah 2) (ag (ah 0) ar))))) ar))))
def vM:List U->R U:=bD .S 2 vL
noncomputable abbrev vN:Gm:=⟨[M,Z,M],M,λ_=>False⟩
def sA:Ev->SR:=(pE (WK (gB (aS (je id) (aS cv (ah 2) (gC (.int 0))) (gC (.str "lay")))) (gB (aS (je id) (aS cv (ah 2) (gC (.int 0))) (gC (.str "mix"))))) (uw (gM "list" 1 tE (ag (aS cv (ah 2) (gC (.int 2))) ar))) (pE (gB (aS (je id) (aS cv (ah 2) (gC (.int 0))) (gC (.str "look")))) (uw (gM "list" 1 jD (ag (fL (d_ (aS cv (ah 2) (gC (.int 2)))) [L] (bo 0) dN (aS cv (ah 0) (gC (.int 1)))) ar))) cA))
def kK:Ev->SR:=(aJ (ba 1 (eZ ar))
 (aJ (ff (d_ (ah 0)) (bo 2)
 sA)
 (bb (ah 1))))
def kM:List U->R U:=bD .O 3 kK
noncomputable abbrev B3:Gm:=⟨[M,Z,M],M,λ_=>False⟩
def rS:Ev->SR:=(aJ (ba 1 (eZ ar))
 (aJ (ba 2 (eZ (ag (ah 0) ar)))
 (aJ (jz (gB (aS VC (iA gF (ag (ah 2) ar)) (gC (.int 0))))
 (aJ (uw (gM "list" 1 tE (ag (ah 2) ar)))
 (ba 2 (bq 1 kM (ag (ah 2) ar)))) 1000)
 (bb (ah 1)))))
def iH:List U->R U:=bD .O 3 rS
noncomputable abbrev Eu:Gm:=⟨[M],M,λ_=>False⟩
def vO:Ev->SR:=(bb (iA Me (ag (fL (d_ (bq 1 iH (ag (ah 0) ar))) [L] (bo 0) dN (iA gF (ag (ah 0) ar))) ar)))
def vP:List U->R U:=bD .S 1 vO
noncomputable abbrev B4:Gm:=⟨[M],M,λ_=>False⟩
def kN:Ev->SR:=(bb (bq 2 gG (ag (BK (gT (bL "weights") (ah 0))) (ag (gT (bL "bottom") (ah 0)) ar))))
def a8:List U->R U:=bD .S 1 kN
noncomputable abbrev sC:Gm:=⟨[M,M],M,λ_=>False⟩
def gr:Ev->SR:=(bb (zo ["plan","trace","bottom","weights"] (ag (aS cv (gT (bL "plan") (ah 0)) (gC (.int 2))) (ag (gT (bL "trace") (ah 0)) (ag (aS eI (gT (bL "bottom") (ah 0)) (iA gF (ag (ah 1) ar))) (ag (bq 2 oH (ag (gT (bL "weights") (ah 0)) (ag (ah 1) ar))) ar))))))
def dC:List U->R U:=bD .S 2 gr
noncomputable abbrev xg:Gm:=⟨[M,Z,M,M,M,M],M,λ_=>False⟩
def fm:Ev->SR:=(pE (gB (aS (KW not) (ah 4) (ah 5))) (λ_=>.exc "NoWay" .non) cA)
def iU:Ev->SR:=(aJ (ba 1 Pf)
 (aJ (yy 1 (vt 1 (LW (gT (bL "weights") (ah 0))) (cg 2 (aD (bo 2) (aD (bo 3) bO)))
 (aJ (Gu 1 (bo 4) (bq 2 eQ (ag (ah 2) (ag (aS cv (gT (bL "plan") (ah 0)) (gC (.int 1))) ar))))
 (aJ (Mp 1 (ah 4) (BX 1 3 (ah 4)) cA)
 (Gv 1 (Mo 1 (BR 1) (ah 4)) (ah 2) (ah 3))))))
 (vi 1 (aJ (ba 5 (iA qc (ag (aS cv (gT (bL "plan") (ah 0)) (gC (.int 2))) ar)))
 (aJ (ff (VG (ah 1)) (bo 4)
 fm)
 (bb (fL (VG (ah 1)) [L,J 5,J 0,J 1] (bo 0) dN (zo ["plan","trace","bottom","weights"] (ag (aS gj (ah 1) (ah 0)) (ag (aS dk (gT (bL "trace") (ah 2)) (aU (ag (ah 0) ar))) (ag (gT (bL "bottom") (ah 2)) (ag (aS gj (ah 3) (ah 0)) ar))))))))))))
def fV:List U->R U:=bD .O 6 iU
noncomputable abbrev sD:Gm:=⟨[M],M,λ_=>False⟩
def bY:Ev->SR:=(aJ (pE (gB (aS (je id) (aS cv (gT (bL "plan") (ah 0)) (gC (.int 0))) (gC (.str "lay")))) (bb (eZ (ag (bq 2 dC (ag (ah 0) (ag (aU (ag (aS cv (gT (bL "plan") (ah 0)) (gC (.int 1))) ar)) ar))) ar))) cA)
 (aJ (pE (gB (aS (je id) (aS cv (gT (bL "plan") (ah 0)) (gC (.int 0))) (gC (.str "mix")))) (bb (eZ (ag (bq 2 dC (ag (ah 0) (ag (aS cv (gT (bL "plan") (ah 0)) (gC (.int 1))) ar))) ar))) cA)
 (aJ (pE (gB (aS (je id) (aS cv (gT (bL "plan") (ah 0)) (gC (.int 0))) (gC (.str "look")))) (bb (bq 1 fV (ag (ah 0) ar))) cA)
 (bb (eZ ar)))))
def aF:List U->R U:=bD .O 1 bY
def eT:List U->R U:=λus=>match us with
 | [pl,.tup ks]=>if fE (.tup ks)=Z then vD a8 cE aF 400 [.obj SF [pl,.tup [],.int 1,.dct [.tup ks] [.int 1]]] [] (ù 5 VI) else .stk
 |_=>.stk
noncomputable abbrev Ew:Gm:=⟨[M,M,M],M,λ_=>False⟩
def mV:Ev->SR:=(aJ (ba 2 (bq 2 eT (ag (ah 0) (ag (ah 1) ar))))
 (aJ (pE (gB (aS (je id) (iA gF (ag (gT (bL "ends") (ah 2)) ar)) (gC (.int 0)))) (λ_=>.exc "NoEnd" .non) cA)
 (bb (ah 2))))
def g9:List U->R U:=bD .S 3 mV
noncomputable abbrev zH:Gm:=⟨[M,Z,M,M,M,M],M,λ_=>False⟩
def iV:Ev->SR:=(aJ (ba 4 (bq 2 eQ (ag (ah 2) (ag (aS cv (gT (bL "plan") (ah 0)) (gC (.int 1))) ar))))
 (iQ 1 (aS dk (iP 1 (ah 4) (gC (.int 0))) (ah 3)) (ah 4)))
def jH:Ev->SR:=(aJ (ba 1 Pf)
 (aJ (ff (LW (gT (bL "weights") (ah 0))) (cg 2 (aD (bo 2) (aD (bo 3) bO)))
 iV)
 (vi 1 (aJ (ba 5 (BK (ah 1)))
 (bb (fL (d_ (iA oC (ag (ah 1) ar))) [L,J 5,J 1] (bo 0) dN (aU (ag (ah 0) (ag (bq 2 gG (ag (aS gj (ah 2) (ah 0)) (ag (ah 1) ar))) ar)))))))))
def fo:List U->R U:=bD .O 6 jH
noncomputable abbrev MM:Gm:=⟨[M,M,M,M],M,λ_=>False⟩
def vQ:Ev->SR:=(aJ (ba 2 (bq 2 g9 (ag (ah 0) (ag (ah 1) ar))))
 (aJ (ba 3 (aS gj (gT (bL "mean") (ah 2)) (gC (.str "end"))))
 (bb (iA vH (ag (fL (d_ (gT (bL "ends") (ah 2))) [L,J 3] (bo 0) dN (aU (ag (gT (bL "trace") (ah 0)) (ag (bq 2 mT (ag (bq 1 a8 (ag (ah 0) ar)) (ag (ah 1) ar))) (ag (bq 1 fo (ag (ah 0) ar)) ar))))) ar)))))
def kO:List U->R U:=bD .O 4 vQ
noncomputable abbrev rT:Gm:=⟨[M,M],M,λ_=>False⟩
def iI:Nat->Ev->SR
 |0=>λ_=>.stk
 |n+1=>let r_with_more:=bD .S 2 (iI n)
  (aJ (pE (gB (aS (je id) (aS cv (ah 0) (gC (.int 0))) (gC (.str "end")))) (bb (aU (ag (gC (.str "lay")) (ag (aS cv (ah 0) (gC (.int 1))) (ag (ah 1) ar))))) cA)
 (aJ (pE (gB (aS (je id) (aS cv (ah 0) (gC (.int 0))) (gC (.str "look")))) (bb (aU (ag (gC (.str "look")) (ag (aS cv (ah 0) (gC (.int 1))) (ag (iA fh (ag (fL (d_ (aS cv (ah 0) (gC (.int 2)))) [L,L,J 1] (cg 2 (aD (bo 0) (aD (bo 1) bO))) dN (aU (ag (ah 0) (ag (bq 2 r_with_more (ag (ah 1) (ag (ah 2) ar))) ar)))) ar)) ar))))) cA)
 (aJ (pE (gB (aS (je id) (aS cv (ah 0) (gC (.int 0))) (gC (.str "again")))) (bb (ah 0)) cA)
 (bb (aU (ag (aS cv (ah 0) (gC (.int 0))) (ag (aS cv (ah 0) (gC (.int 1))) (ag (bq 2 r_with_more (ag (aS cv (ah 0) (gC (.int 2))) (ag (ah 1) ar))) ar))))))))
def rV (n:Nat):List U->R U:=bD .S 2 (iI n)
noncomputable abbrev mW:Gm:=⟨[M,M,M],M,λ_=>False⟩
def lZ:Ev->SR:=(pE (Ba (gB (iA TZ (ag (fL (d_ (ah 2)) [L,J 0] (bo 0) (gB (aS (je id) (aS cv (ah 0) (gC (.int 0))) (gC (.str "end")))) (aS (je id) (iA gF (ag (aS cv (ah 0) (gC (.int 1))) ar)) (ah 1))) ar)))) (bb (gC (.bl M))) cA)
def g_:Ev->SR:=(aJ (ff (d_ (bq 1 iH (ag (ah 1) ar))) (bo 2)
 lZ)
 (bb (gC (.bl Z))))
def ib:List U->R U:=bD .S 3 g_
noncomputable abbrev vR:Gm:=⟨[M],M,λ_=>False⟩
def kP:Ev->SR:=(bb (Y1 (aS VC (bq 1 vP (ag (ah 0) ar)) (gC (.int 60))) (aS VC (iA gF (ag (bq 1 iH (ag (ah 0) ar)) ar)) (gC (.int 12)))))
def kQ:List U->R U:=bD .S 1 kP
noncomputable abbrev Ex:Gm:=⟨[M,M,M,M],M,λ_=>False⟩
def vS:Ev->SR:=(aJ (pE (Ba (gB (bq 2 ib (ag (ah 0) (ag (ah 1) ar))))) (λ_=>.exc "NoPlan" .non) cA)
 (aJ (ba 3 (bq 2 (rV 20) (ag (ah 1) (ag (ah 2) ar))))
 (aJ (pE (gB (bq 1 kQ (ag (ah 3) ar))) (λ_=>.exc "TooMany" .non) cA)
 (bb (ah 3)))))
def bA:List U->R U:=bD .S 4 vS
noncomputable abbrev Jd:Gm:=⟨[M],M,λ_=>False⟩
def yF:Ev->SR:=(bb (aU (ag (aS eI (gC (.int 2)) (ah 0)) (ag (aS dk (aS eI (gC (.int 2)) (ah 0)) (gC (.int 1))) ar))))
def dI:List U->R U:=bD .S 1 yF
noncomputable abbrev MN:Gm:=⟨[M],M,λ_=>False⟩
def B5:Ev->SR:=(bb (aU (ag (aS cv (ah 0) (gC (.int 1))) (ag (aS cv (ah 0) (gC (.int 0))) ar))))
def ic:List U->R U:=bD .S 1 B5
noncomputable abbrev B6:Gm:=⟨[M,M,Z,M],M,λ_=>False⟩
def zI:Ev->SR:=(uw (gM "list" 2 jD (ag (ah 3) ar)))
def rW:Ev->SR:=(aJ (ba 2 (eZ ar))
 (aJ (ff (d_ (ah 1)) (bo 3)
 zI)
 (vi 2 (bb (aU (ag (gC (.str "end")) (ag (iA fh (ag (aS dk (ah 2) (fL (mw (ag (ah 0) ar)) [L,J 2] (bo 0) (gB (aS (Z9 not) (ah 0) (ah 1))) (ah 0))) ar)) ar)))))))
def dX:List U->R U:=bD .S 4 rW
noncomputable abbrev qf:Gm:=⟨[M,M,M],M,λ_=>False⟩
def jg:Ev->SR:=(bb (aU (ag (gC (.str "mix")) (ag (bq 2 vM (ag (ah 0) (ag (ah 1) ar))) (ag (aU (ag (gC (.str "look")) (ag (aU (ag (aS cv (aS cv (ah 1) (gC (.int 0))) (gC (.int 0))) ar)) (ag (aU (ag (aU (ag (aU (ag (gC (.int 0)) ar)) (ag (aS cv (ah 2) (gC (.int 0))) ar))) (ag (aU (ag (aU (ag (gC (.int 1)) ar)) (ag (aS cv (ah 2) (gC (.int 1))) ar))) ar))) ar)))) ar)))))
def eh:List U->R U:=bD .S 3 jg
noncomputable abbrev Je:Gm:=⟨[M,M],M,λ_=>False⟩
def yG:Ev->SR:=(bb (aU (ag (aS dk (aU (ag (aS cv (ah 0) (gC (.int 0))) ar)) (iA fh (ag (fL (d_ (ah 1)) [L] (bo 0) dN (aS cv (ah 0) (gC (.int 0)))) ar))) (ag (aS dk (aU (ag (aS cv (ah 0) (gC (.int 1))) ar)) (iA fh (ag (fL (d_ (ah 1)) [L] (bo 0) dN (aS cv (ah 0) (gC (.int 1)))) ar))) ar))))
def qg:List U->R U:=bD .S 2 yG
noncomputable abbrev Ey:Gm:=⟨[M,M,M],M,λ_=>False⟩
def vT:Ev->SR:=(bb (aU (ag (aS dk (aU (ag (aS cv (ah 0) (gC (.int 0))) ar)) (ah 1)) (ag (aS dk (aU (ag (aS cv (ah 0) (gC (.int 1))) ar)) (ah 2)) ar))))
def vV:List U->R U:=bD .S 3 vT
noncomputable abbrev Jf:Gm:=⟨[M,M,M,Z],M,λ_=>False⟩
def yH:Ev->SR:=(aJ (ba 2 (bq 1 dI (ag (ah 1) ar)))
 (aJ (ba 3 (x_ (ag (ah 0) ar)))
 (aJ (nX 3 (aS cv (ah 2) (gC (.int 1))) (aS cv (ah 2) (gC (.int 0))))
 (aJ (nX 3 (aS cv (ah 2) (gC (.int 0))) (aS cv (ah 2) (gC (.int 1))))
 (bb (aU (ag (gC (.str "end")) (ag (iA fh (ag (ah 3) ar)) ar))))))))
def cF:List U->R U:=bD .S 4 yH
noncomputable abbrev UB:Gm:=⟨[M,M,M,M,M,M],M,λ_=>False⟩
def MO:Ev->SR:=(aJ (ba 3 (bq 1 dI (ag (ah 1) ar)))
 (aJ (ba 4 (bq 1 dI (ag (ah 2) ar)))
 (aJ (ba 5 (aU (ag (bq 2 dX (ag (ah 0) (ag (aU (ag (ah 4) (ag (ah 3) ar))) ar))) (ag (bq 2 dX (ag (ah 0) (ag (aU (ag (bq 1 ic (ag (ah 4) ar)) (ag (bq 1 ic (ag (ah 3) ar)) ar))) ar))) ar))))
 (bb (bq 3 eh (ag (ah 0) (ag (bq 2 qg (ag (ah 3) (ag (aU (ag (ah 4) ar)) ar))) (ag (ah 5) ar))))))))
def jI:List U->R U:=bD .S 6 MO
noncomputable abbrev Qb:Gm:=⟨[M,M,M,M,M,M,M,M],M,λ_=>False⟩
def GH:Ev->SR:=(aJ (ba 4 (bq 1 dI (ag (ah 1) ar)))
 (aJ (ba 5 (bq 1 dI (ag (ah 3) ar)))
 (aJ (ba 6 (bq 1 dI (ag (ah 2) ar)))
 (aJ (ba 7 (aU (ag (bq 2 dX (ag (ah 0) (ag (aU (ag (ah 5) (ag (ah 4) (ag (ah 6) ar)))) ar))) (ag (bq 2 dX (ag (ah 0) (ag (aU (ag (ah 6) (ag (bq 1 ic (ag (ah 4) ar)) (ag (ah 5) ar)))) ar))) ar))))
 (bb (bq 3 eh (ag (ah 0) (ag (bq 3 vV (ag (ah 4) (ag (ah 5) (ag (ah 6) ar)))) (ag (ah 7) ar)))))))))
def tN:List U->R U:=bD .S 8 GH
noncomputable abbrev MP:Gm:=⟨[M,M,M,M,M,M,M],M,λ_=>False⟩
def B7:Ev->SR:=(aJ (ba 4 (bq 1 dI (ag (ah 1) ar)))
 (aJ (ba 5 (aU (ag (bq 1 dI (ag (ah 2) ar)) (ag (bq 1 dI (ag (ah 3) ar)) ar))))
 (aJ (ba 6 (aU (ag (bq 2 dX (ag (ah 0) (ag (aS dk (ah 5) (aU (ag (ah 4) ar))) ar))) (ag (bq 2 dX (ag (ah 0) (ag (aU (ag (bq 1 ic (ag (aS cv (ah 5) (gC (.int 0))) ar)) (ag (bq 1 ic (ag (aS cv (ah 5) (gC (.int 1))) ar)) (ag (bq 1 ic (ag (ah 4) ar)) ar)))) ar))) ar))))
 (bb (bq 3 eh (ag (ah 0) (ag (bq 2 qg (ag (ah 4) (ag (ah 5) ar))) (ag (ah 6) ar))))))))
def kR:List U->R U:=bD .S 7 B7
noncomputable abbrev Jg:Gm:=⟨[M,M,M,M,Z,M],M,λ_=>False⟩
def mX:Ev->SR:=(iQ 4 (bq 2 mT (ag (bq 1 a8 (ag (ah 5) ar)) (ag (ah 3) ar))) (gT (bL "trace") (ah 5)))
def qh:Ev->SR:=(aJ (ba 2 (bq 2 g9 (ag (ah 0) (ag (ah 1) ar))))
 (aJ (ba 3 (aS gj (gT (bL "mean") (ah 2)) (gC (.str "end"))))
 (aJ (ba 4 Pf)
 (aJ (ff (d_ (gT (bL "ends") (ah 2))) (bo 5)
 mX)
 (vi 4 (bb (zo ["again","traces"] (ag (aS gj (gT (bL "mean") (ah 2)) (gC (.str "again"))) (ag (ah 4) ar)))))))))
def dJ:List U->R U:=bD .S 6 qh
noncomputable abbrev zJ:Gm:=⟨[M,M],M,λ_=>False⟩
def jJ:Ev->SR:=(bb (Y1 (aS (Oi not) (gT (bL "again") (ah 0)) (gT (bL "again") (ah 1))) (aS B1 (gT (bL "traces") (ah 0)) (gT (bL "traces") (ah 1)))))
def ei:List U->R U:=bD .S 2 jJ
noncomputable def kS:List U->R U:=λ_=>.stk
noncomputable abbrev B8:Gm:=⟨[M,M,M,M,M,M],M,λ_=>False⟩
def jK:Ev->SR:=(pE (OZ (gB (aS (je id) (aS cv (ah 2) (ah 4)) (aS cv (ah 2) (ah 5)))) (gB (bq 2 ei (ag (aS cv (ah 3) (ah 4)) (ag (aS cv (ah 3) (ah 5)) ar))))) (bb (aU (ag (gC (.str "tells")) (ag (ah 4) (ag (ah 5) (ag (bq 2 kS (ag (aS cv (ah 3) (ah 4)) (ag (aS cv (ah 3) (ah 5)) ar))) ar)))))) cA)
def jL:Ev->SR:=(ff (Fw (ag (aS dk (ah 4) (gC (.int 1))) (ag (iA gF (ag (ah 3) ar)) ar))) (bo 5)
 jK)
def kW:Ev->SR:=(aJ (ba 3 (fL (d_ (ah 1)) [L,J 0] (bo 0) dN (bq 2 dJ (ag (ah 1) (ag (ah 0) ar)))))
 (aJ (ff (mw (ag (iA gF (ag (ah 3) ar)) ar)) (bo 4)
 jL)
 (bb (aU (ag (gC (.str "quiet")) ar)))))
def iJ:List U->R U:=bD .S 6 kW
noncomputable abbrev Qc:Gm:=⟨[M,M],M,λ_=>False⟩
def zK:Ev->SR:=(bb (bq 3 iJ (ag (ah 0) (ag (ah 1) (ag (aS rL (eZ (ag (gC (.int 0)) ar)) (iA gF (ag (ah 1) ar))) ar)))))
def tO:List U->R U:=bD .S 2 zK
noncomputable abbrev xh:Gm:=⟨[M,M,M,M,M,M,M,M],M,λ_=>False⟩
def ie:Ev->SR:=(pE (gB (aS (Oi not) (ah 6) (ah 2))) (bb (aU (ag (ah 3) (ag (ah 6) ar)))) cA)
def kX:Ev->SR:=(ff (d_ (ah 5)) (cg 2 (aD (bo 6) (aD (bo 7) bO)))
 ie)
def iW:Ev->SR:=(aJ (ff (d_ (bq 2 kO (ag (ah 0) (ag (ah 1) ar)))) (cg 3 (aD (bo 3) (aD (bo 4) (aD (bo 5) bO))))
 kX)
 (bb (gC .non)))
def eJ:List U->R U:=bD .S 8 iW
noncomputable abbrev MQ:Gm:=⟨[M,M,M,M,M],M,λ_=>False⟩
def qi:Ev->SR:=(aJ (ba 4 (bq 3 eJ (ag (ah 0) (ag (aS cv (ah 3) (gC (.int 0))) (ag (aS cv (ah 3) (gC (.int 1))) ar)))))
 (pE (gB (aS (Pc not) (ah 4) (gC .non))) (bb (aU (ag (gC (.str "wrong")) (ag (ah 2) (ag (aS cv (ah 4) (gC (.int 0))) (ag (aS cv (ah 4) (gC (.int 1))) ar)))))) cA))
def vW:Ev->SR:=(aJ (ff (Gw (ag (ah 1) ar)) (cg 2 (aD (bo 2) (aD (bo 3) bO)))
 qi)
 (bb (aU (ag (gC (.str "right")) ar))))
def kY:List U->R U:=bD .S 5 vW
noncomputable abbrev Jh:Gm:=⟨[M,M,Z,M,M,M,M,M],M,λ_=>False⟩
def jM:Ev->SR:=(iQ 2 (bq 2 cE (ag (iP 2 (ah 6) (aU (ag (gC (.int 0)) (ag (gC (.int 1)) ar)))) (ag (bq 2 zD (ag (ah 4) (ag (ah 7) ar))) ar))) (ah 6))
def ig:Ev->SR:=(ff (d_ (ah 5)) (cg 2 (aD (bo 6) (aD (bo 7) bO)))
 jM)
def qj:Ev->SR:=(aJ (ba 2 Pf)
 (aJ (ff (d_ (bq 2 kO (ag (ah 0) (ag (ah 1) ar)))) (cg 3 (aD (bo 3) (aD (bo 4) (aD (bo 5) bO))))
 ig)
 (vi 2 (bb (fL (d_ (iA oC (ag (ah 2) ar))) [L,J 2] (bo 0) dN (aU (ag (ah 0) (ag (aS gj (ah 1) (ah 0)) ar))))))))
def jh:List U->R U:=bD .O 8 qj
noncomputable abbrev vX:Gm:=⟨[M,M],M,λ_=>False⟩
def fq:Ev->SR:=(aJ (pE (gB (aS Y3 (ah 1) (iA gF (ag (ah 0) ar)))) (bb (aS cv (ah 0) (ah 1))) cA)
 (bb (gC (.int 0))))
def dY:List U->R U:=bD .S 2 fq
noncomputable abbrev zL:Gm:=⟨[M,M,M],M,λ_=>False⟩
def gH:Ev->SR:=(aJ (ba 2 (bq 2 dY (ag (ah 0) (ag (ah 1) ar))))
 (aJ (pE (gB (aS ZU (ah 2) (aS O9 (gC (.int 10)) (gC (.int 18))))) (bb (eZ (ag (aS H_ (ah 2) (aS O9 (gC (.int 10)) (gC (.int 18)))) (ag (gC (.bl Z)) ar)))) cA)
 (bb (eZ (ag (aS su (ah 2) (gC (.int 2147483647))) (ag (gC (.bl M)) ar))))))
def ej:List U->R U:=bD .O 3 gH
noncomputable abbrev B9:Gm:=⟨[Z,M,M,M],Z,λ_=>False⟩
def iK:Ev->SR:=(aJ (pE (gB (aS cv (ah 0) (gC (.int 1)))) (aJ (ba 2 (aS su (aS cv (ah 0) (gC (.int 0))) (ah 1)))
 (aJ (nX 0 (aS qU (aS cv (ah 0) (gC (.int 0))) (ah 1)) (gC (.int 0)))
 (bb (ah 2)))) cA)
 (aJ (nX 0 (aS su (aS dk (aS eI (aS cv (ah 0) (gC (.int 0))) (gC (.int 48271))) (gC (.int 29))) (gC (.int 2147483647))) (gC (.int 0)))
 (aJ (ba 3 (aS su (aS dk (aS dk (aS eI (aS cv (ah 0) (gC (.int 0))) (aS cv (ah 0) (gC (.int 0)))) (aS eI (gC (.int 39373)) (aS cv (ah 0) (gC (.int 0))))) (gC (.int 7))) (gC (.int 2147483629))))
 (aJ (ba 3 (aS su (aS dk (aS eI (ah 3) (ah 3)) (aS eI (gC (.int 16807)) (ah 3))) (gC (.int 2147483587))))
 (bb (aS su (aS qU (ah 3) (gC (.int 8))) (ah 1)))))))
def bI:List U->R (U×U):=DF 4 iK
noncomputable abbrev B_:Gm:=⟨[M],M,λ_=>False⟩
def rX:Ev->SR:=(bb (aU (ag (ah 0) (ag (aS H_ (gC (.int 1)) (ah 0)) ar))))
def gd:List U->R U:=bD .S 1 rX
noncomputable abbrev cI:Gm:=⟨[Z,M,M,M,Z,M,M],Z,λ_=>False⟩
def ij:Ev->SR:=(aJ (nX 4 (ah 6) (aS eI (gC (.int 2)) (ah 5)))
 (nX 4 (aS H_ (gC (.int 1)) (ah 6)) (aS dk (aS eI (gC (.int 2)) (ah 5)) (gC (.int 1)))))
def fu:Ev->SR:=(aJ (ba 4 (za cI (mw (ag (ah 1) ar)) [L,J 0] (bo 0) dN (HW 2 1 bI (ag (gC (.int 10)) ar))))
 (aJ (ff (sx (ag (ah 2) (ag (ah 3) ar))) (cg 2 (aD (bo 5) (aD (bo 6) bO)))
 ij)
 (bb (iA fh (ag (ah 4) ar)))))
def cJ:List U->R (U×U):=DF 7 fu
noncomputable abbrev ip:Gm:=⟨[Z,M,M,Z],Z,λ_=>False⟩
def iq:Ev->SR:=(aJ (ba 3 (x_ (ag (aS qU (ah 1) (gC (.int 2))) ar)))
 (bb (za ip (mw (ag (ah 2) ar)) [L,J 3,J 0] (bo 0) dN (gM "list" 1 pZ (ag (HW 2 2 bI (ag (iA gF (ag (ah 1) ar)) ar)) ar)))))
def dZ:List U->R (U×U):=DF 4 iq
noncomputable abbrev sE:Gm:=⟨[M,M,M],M,λ_=>False⟩
def qk:Ev->SR:=(ba 1 (aS dk (fL (d_ (ah 1)) [L] (bo 0) dN (aS dk (ah 0) (aU (ag (gC (.int 0)) ar)))) (fL (d_ (ah 1)) [L] (bo 0) dN (aS dk (ah 0) (aU (ag (gC (.int 1)) ar))))))
def j4:Ev->SR:=(aJ (ba 1 (eZ (ag (aU ar) ar)))
 (aJ (ff (mw (ag (ah 0) ar)) (bo 2)
 qk)
 (bb (ah 1))))
def bZ:List U->R U:=bD .S 3 j4
noncomputable abbrev zM:Gm:=⟨[M,M],M,λ_=>False⟩
def oI:Ev->SR:=(bb (bq 3 bA (ag (ah 0) (ag (ah 1) (ag (aU (ag (gC (.str "end")) (ag (aU (ag (gC (.int 0)) (ag (gC (.int 1)) ar))) ar))) ar)))))
def bF:List U->R U:=bD .S 2 oI
noncomputable abbrev zN:Gm:=⟨[M,M,M],M,λ_=>False⟩
def jN:Ev->SR:=(bb (TB (aS (Oi id) (bq 2 kY (ag (ah 0) (ag (yB (ag (ah 1) (ag (ah 2) ar))) ar))) (aU (ag (gC (.str "right")) ar))) (aS (Oi id) (bq 2 tO (ag (ah 0) (ag (ah 1) ar))) (aU (ag (gC (.str "quiet")) ar)))))
def cf:List U->R U:=bD .S 3 jN
noncomputable abbrev Ez:Gm:=⟨[M,M,M,M,M,M,M,M,M],M,λ_=>False⟩
def mY:Ev->SR:=(aJ (KA (uu 3 (aD (bo 3) (aD (bo 4) (aD (bo 5) bO)))) (ah 2))
 (aJ (ba 6 (bq 1 bZ (ag (gC (.int 2)) ar)))
 (aJ (ba 7 (bq 4 tN (ag (ah 0) (ag (ah 3) (ag (ah 4) (ag (ah 5) ar))))))
 (aJ (ba 7 (bq 3 bA (ag (ah 0) (ag (bq 2 cF (ag (ah 0) (ag (ah 3) ar))) (ag (bq 3 bA (ag (ah 0) (ag (bq 2 cF (ag (ah 0) (ag (ah 4) ar))) (ag (ah 7) ar)))) ar)))))
 (aJ (ba 7 (bq 2 bF (ag (ah 0) (ag (bq 3 bA (ag (ah 0) (ag (ah 7) (ag (bq 2 cF (ag (ah 0) (ag (gC (.int 0)) ar))) ar)))) ar))))
 (aJ (pE (Ba (gB (bq 3 cf (ag (ah 7) (ag (ah 1) (ag (fL (d_ (ah 6)) [L] (bo 0) dN (bq 1 gd (ag (iA GD (ag (ah 0) ar)) ar))) ar)))))) (bb (gC (.bl M))) cA)
 (aJ (ba 8 (fL (d_ (ah 6)) [L] (bo 0) dN (bq 1 gd (ag (aS su (aS dk (aS cv (ah 0) (gC (.int 0))) (aS cv (ah 0) (gC (.int 1)))) (gC (.int 2))) ar))))
 (aJ (pE (Ba (gB (bq 3 cf (ag (bq 2 bF (ag (ah 0) (ag (bq 3 jI (ag (ah 0) (ag (ah 3) (ag (ah 4) ar)))) ar))) (ag (ah 1) (ag (ah 8) ar)))))) (bb (gC (.bl M))) cA)
 (bb (bq 3 cf (ag (bq 2 bF (ag (ah 0) (ag (bq 3 jI (ag (ah 0) (ag (ah 4) (ag (ah 3) ar)))) ar))) (ag (ah 1) (ag (ah 8) ar)))))))))))))
def jO:List U->R U:=bD .S 9 mY
noncomputable abbrev zO:Gm:=⟨[M,M,M,M,M,M,M,M,M,M],M,λ_=>False⟩
def fW:Ev->SR:=(pE (gB (aS (Oi not) (bq 2 jh (ag (ah 6) (ag (ah 7) ar))) (eZ (ag (aU (ag (ah 7) (ag (aU (ag (gC (.int 1)) (ag (gC (.int 1)) ar))) ar))) ar)))) (bb (gC (.bl M))) cA)
def jP:Ev->SR:=(aJ (KA (uu 3 (aD (bo 3) (aD (bo 4) (aD (bo 5) bO)))) (ah 2))
 (aJ (ba 6 (bq 3 bA (ag (ah 0) (ag (bq 2 cF (ag (ah 0) (ag (ah 3) ar))) (ag (bq 2 cF (ag (ah 0) (ag (ah 3) ar))) ar)))))
 (aJ (ff (d_ (ah 1)) (bo 7)
 fW)
 (aJ (ba 8 (bq 3 bA (ag (ah 0) (ag (bq 4 kR (ag (ah 0) (ag (ah 3) (ag (ah 4) (ag (ah 5) ar))))) (ag (bq 3 jI (ag (ah 0) (ag (gC (.int 0)) (ag (gC (.int 1)) ar)))) ar)))))
 (aJ (ba 9 (fL (sx (ag (ah 1) (ag (bq 1 bZ (ag (gC (.int 2)) ar)) ar))) [L,L] (cg 2 (aD (bo 0) (aD (bo 1) bO))) (gB (aS (Oi id) (aS cv (ah 1) (gC (.int 1))) (gC (.int 0)))) (ah 0)))
 (bb (bq 3 cf (ag (bq 2 bF (ag (ah 0) (ag (ah 8) ar))) (ag (ah 9) (ag (aS rL (eZ (ag (aU (ag (gC (.int 0)) (ag (gC (.int 1)) ar))) ar)) (iA gF (ag (ah 9) ar))) ar))))))))))
def gI:List U->R U:=bD .S 10 jP
noncomputable abbrev GI:Gm:=⟨[M,M,Z,M,M,M],M,λ_=>False⟩
def vY:Ev->SR:=(aJ (ba 2 (bq 2 ej (ag (ah 0) (ag (ah 1) ar))))
 (aJ (ba 3 (aS dk (gC (.int 6)) (aS eI (gC (.int 2)) (HW 2 2 bI (ag (gC (.int 2)) ar)))))
 (aJ (ba 4 (HW 3 2 dZ (ag (ah 3) (ag (gC (.int 3)) ar))))
 (aJ (ba 5 (za GI (d_ (bq 1 bZ (ag (gC (.int 2)) ar))) [L,J 2,J 3,J 4] (bo 0) dN (HW 4 1 cJ (ag (ah 2) (ag (ah 3) (ag (aS dk (ah 0) (aU (ag (gC (.int 0)) ar))) ar))))))
 (pE (WK (Ba (gB (bq 3 jO (ag (ah 3) (ag (ah 5) (ag (ah 4) ar)))))) (Ba (gB (bq 3 gI (ag (ah 3) (ag (ah 5) (ag (ah 4) ar))))))) (bb (gC (.bl M))) cA)))))
def MR:Ev->SR:=(aJ (ff (mw (ag (iA FE (ag (gC (.int 1)) (ag (iA FF (ag (iA gF (ag (ah 0) ar)) (ag (gC (.int 2)) ar))) ar))) ar)) (bo 1)
 vY)
 (bb (gC (.bl Z))))
def Ca:List U->R U:=bD .S 6 MR
end Hc
end
namespace Hc
open L2
abbrev fP:Ë:=top 7
abbrev EA:Ë:=top 8
abbrev MS:Ë:=top 9
abbrev EB:Ë:=top 10
abbrev MT:Ë:=top 11
abbrev oJ:Ë:=top 13
abbrev vZ:Ë:=top 16
abbrev zP:Ë:=top 17
abbrev mZ:Ë:=top 18
abbrev cN:Ë:=top 19
abbrev oK:Ë:=top 20
abbrev gJ:Ë:=top 24
abbrev qm:Ë:=top 25
abbrev oM:Ë:=top 26
abbrev qo:Ë:=top 29
abbrev iX:Ë:=top 30
abbrev iL:Ë:=top 31
abbrev iY:Ë:=top 32
abbrev ji:Ë:=top 33
abbrev v7:Ë:=top 34
abbrev jQ:Ë:=top 35
abbrev tP:Ë:=top 36
abbrev gP:Ë:=top 38
abbrev eM:Ë:=top 39
abbrev kZ:Ë:=top 40
abbrev qp:Ë:=top 41
abbrev zQ:Ë:=top 42
abbrev zR:Ë:=top 43
abbrev lH:Ë:=top 44
abbrev iZ:Ë:=top 45
abbrev k7:Ë:=top 46
abbrev qr:Ë:=top 47
abbrev v8:Ë:=top 48
abbrev MU:Ë:=top 49
abbrev EC:Ë:=top 50
abbrev zS:Ë:=top 51
abbrev zT:Ë:=top 54
abbrev m4:Ë:=top 55
abbrev jR:Ë:=top 56
abbrev lJ:Ë:=top 57
abbrev ED:Ë:=top 58
abbrev k8:Ë:=top 60
abbrev zU:Ë:=top 61
abbrev oN:Ë:=top 62
abbrev m6:Ë:=top 64
abbrev qt:Ë:=top 65
abbrev v9:Ë:=top 66
abbrev v_:Ë:=top 67
abbrev fX:Ë:=top 68
abbrev iM:Ë:=top 69
abbrev gf:Ë:=top 70
abbrev qv:Ë:=top 71
abbrev qw:Ë:=top 72
abbrev oO:Ë:=top 73
abbrev lK:Ë:=top 74
abbrev zV:Ë:=top 75
abbrev zW:Ë:=jv (top 27) 0
abbrev Bd (x:Str)(ps:List Str)(s:Ë):Prop:=∀(kV ke pm:d) (an:Option I) (cS ct:d) (us:List d),us.length=ps.length->ĵ (č x x (cT s) (bf s) (ak s) .none kV ke pm an cS ct) ⟨us,[]⟩=pure (ps.zip us)
def fD {P:List Str}{sc:þ}(a:sc.kind=.function:=by rfl)(b:sc.isCoroutine=M:=by rfl)(c:sc.isGenerator=M:=by rfl)(d:N.Nodup:=by decide+kernel)(e:N.take P.length=P:=by rfl)(f:∀x∈P,sc.names.lookup x=J .local\/sc.names.lookup x=J .cell:=by decide+kernel)(g:∀y∈sc.names,y.2≠.free:=by decide+kernel):ay N P sc:=⟨a,b,c,d,e,f,g⟩
def rm {k:Nat}{A:Ð}(r:cX k A)(h:j<=k:=by first|decide|lia):cX j A:=r.mono h
def MV:ay ["self","plan","trace","bottom","weights"] ["self","plan","trace","bottom","weights"] (ak zW):=fD
abbrev GJ:Ë:=jv (top 53) 0
def Qd:ay ["self","again","traces"] ["self","again","traces"] (ak GJ):=fD
def bH:ay ["one","other","rest"] ["one","other"] (ak fP):=fD
theorem l5:Bd "greatest_divisor" ["one","other"] fP:=λ_ _ _ _ _ _ us hl=>match us,hl with|[_,_],_=>rfl
def wa:ay ["top","bottom","divisor"] ["top","bottom"] (ak EA):=fD
theorem MW:Bd "ratio" ["top","bottom"] EA:=λ_ _ _ _ _ _ us hl=>match us,hl with|[_,_],_=>rfl
def Qe:ay ["one","other"] ["one","other"] (ak MS):=fD
theorem Qf:Bd "plus" ["one","other"] MS:=λ_ _ _ _ _ _ us hl=>match us,hl with|[_,_],_=>rfl
def MX:ay ["one","other"] ["one","other"] (ak EB):=fD
theorem MY:Bd "times" ["one","other"] EB:=λ_ _ _ _ _ _ us hl=>match us,hl with|[_,_],_=>rfl
def Qg:ay ["one","other"] ["one","other"] (ak MT):=fD
theorem Qh:Bd "over" ["one","other"] MT:=λ_ _ _ _ _ _ us hl=>match us,hl with|[_,_],_=>rfl
def Cb:ay ["row","places"] ["row","places"] (ak oJ):=fD
theorem Cc:Bd "cards_at" ["row","places"] oJ:=λ_ _ _ _ _ _ us hl=>match us,hl with|[_,_],_=>rfl
def m7:ay ["shuffle","often","order"] ["shuffle"] (ak vZ):=fD
theorem EE:Bd "counted" ["shuffle"] vZ:=λ_ _ _ _ _ _ us hl=>match us,hl with|[_],_=>rfl
def fQ:ay ["weights","shuffle","gathered","order","often","row","weight","changed"] ["weights","shuffle"] (ak zP):=fD
theorem Ji:Bd "spread" ["weights","shuffle"] zP:=λ_ _ _ _ _ _ us hl=>match us,hl with|[_,_],_=>rfl
def eo:ay ["many","piles","sources","order","pile","source","place","origin"] ["many","piles","sources"] (ak mZ):=fD
theorem zX:Bd "exchanged" ["many","piles","sources"] mZ:=λ_ _ _ _ _ _ us hl=>match us,hl with|[_,_,_],_=>rfl
def dD:ay ["numbers","told","number","rest"] ["numbers"] (ak cN):=fD
theorem j5:Bd "arrangements" ["numbers"] cN:=λ_ _ _ _ _ _ us hl=>match us,hl with|[_],_=>rfl
def Cd:ay ["many","piles"] ["many","piles"] (ak oK):=fD
theorem Ce:Bd "pile_mix" ["many","piles"] oK:=λ_ _ _ _ _ _ us hl=>match us,hl with|[_,_],_=>rfl
def gu:ay ["plans","inner","plan"] ["plans"] (ak gJ):=fD
theorem sF:Bd "plans_within" ["plans"] gJ:=λ_ _ _ _ _ _ us hl=>match us,hl with|[_],_=>rfl
def gK:ay ["plan","levels","level"] ["plan"] (ak qm):=fD
theorem zY:Bd "levels_of" ["plan"] qm:=λ_ _ _ _ _ _ us hl=>match us,hl with|[_],_=>rfl
def Cf:ay ["plan"] ["plan"] (ak oM):=fD
theorem Cg:Bd "plans_in" ["plan"] oM:=λ_ _ _ _ _ _ us hl=>match us,hl with|[_],_=>rfl
def zZ:ay ["scene"] ["scene"] (ak qo):=fD
theorem z9:Bd "chance_of" ["scene"] qo:=λ_ _ _ _ _ _ us hl=>match us,hl with|[_],_=>rfl
def qx:ay ["scene","orders"] ["scene","orders"] (ak iX):=fD
theorem qy:Bd "behind_orders" ["scene","orders"] iX:=λ_ _ _ _ _ _ us hl=>match us,hl with|[_,_],_=>rfl
def cC:ay ["scene","parts","row","weight","seen","ways"] ["scene"] (ak iL):=fD
theorem wc:Bd "behind_look" ["scene"] iL:=λ_ _ _ _ _ _ us hl=>match us,hl with|[_],_=>rfl
def qz:ay ["scene"] ["scene"] (ak iY):=fD
theorem qA:Bd "scenes_behind" ["scene"] iY:=λ_ _ _ _ _ _ us hl=>match us,hl with|[_],_=>rfl
def fy:ay ["plan","row","walk","waiting","scene","form"] ["plan","row"] (ak ji):=fD
theorem z_:Bd "walk_once" ["plan","row"] ji:=λ_ _ _ _ _ _ us hl=>match us,hl with|[_,_],_=>rfl
def rY:ay ["plan","row","walk"] ["plan","row"] (ak v7):=fD
theorem Ci:Bd "round_of" ["plan","row"] v7:=λ_ _ _ _ _ _ us hl=>match us,hl with|[_,_],_=>rfl
def dM:ay ["scene","weights","row","weight","result","together"] ["scene"] (ak jQ):=fD
theorem xi:Bd "results_of" ["scene"] jQ:=λ_ _ _ _ _ _ us hl=>match us,hl with|[_],_=>rfl
def qB:ay ["plan","row","walk","ended"] ["plan","row"] (ak tP):=fD
theorem Jj:Bd "walked" ["plan","row"] tP:=λ_ _ _ _ _ _ us hl=>match us,hl with|[_,_],_=>rfl
def oP:ay ["plan","more"] ["plan","more"] (ak gP):=fD
theorem oQ:Bd "with_more" ["plan","more"] gP:=λ_ _ _ _ _ _ us hl=>match us,hl with|[_,_],_=>rfl
def gy:ay ["many","plan","level"] ["many","plan"] (ak eM):=fD
theorem l7:Bd "tells_all_places" ["many","plan"] eM:=λ_ _ _ _ _ _ us hl=>match us,hl with|[_,_],_=>rfl
def sG:ay ["plan"] ["plan"] (ak kZ):=fD
theorem sH:Bd "is_too_great" ["plan"] kZ:=λ_ _ _ _ _ _ us hl=>match us,hl with|[_],_=>rfl
def rZ:ay ["many","plan","more","joined"] ["many","plan","more"] (ak qp):=fD
theorem Cj:Bd "followed" ["many","plan","more"] qp:=λ_ _ _ _ _ _ us hl=>match us,hl with|[_,_,_],_=>rfl
def EF:ay ["number"] ["number"] (ak zQ):=fD
theorem EG:Bd "pair_at" ["number"] zQ:=λ_ _ _ _ _ _ us hl=>match us,hl with|[_],_=>rfl
def Jk:ay ["pair"] ["pair"] (ak zR):=fD
theorem Jl:Bd "turned" ["pair"] zR:=λ_ _ _ _ _ _ us hl=>match us,hl with|[_],_=>rfl
def jS:ay ["many","pairs","places","pair"] ["many","pairs"] (ak lH):=fD
theorem Aa:Bd "whole_end" ["many","pairs"] lH:=λ_ _ _ _ _ _ us hl=>match us,hl with|[_,_],_=>rfl
def oR:ay ["many","piles","plans"] ["many","piles","plans"] (ak iZ):=fD
theorem oS:Bd "mixed_and_seen" ["many","piles","plans"] iZ:=λ_ _ _ _ _ _ us hl=>match us,hl with|[_,_,_],_=>rfl
def EH:ay ["one","others"] ["one","others"] (ak k7):=fD
theorem EI:Bd "turning" ["one","others"] k7:=λ_ _ _ _ _ _ us hl=>match us,hl with|[_,_],_=>rfl
def Ck:ay ["one","low","high"] ["one","low","high"] (ak qr):=fD
theorem Cm:Bd "choosing" ["one","low","high"] qr:=λ_ _ _ _ _ _ us hl=>match us,hl with|[_,_,_],_=>rfl
def m8:ay ["many","at","pair","order"] ["many","at"] (ak v8):=fD
theorem EJ:Bd "negated" ["many","at"] v8:=λ_ _ _ _ _ _ us hl=>match us,hl with|[_,_],_=>rfl
def tQ:ay ["many","one","other","first","second","ends"] ["many","one","other"] (ak MU):=fD
theorem Qi:Bd "oned" ["many","one","other"] MU:=λ_ _ _ _ _ _ us hl=>match us,hl with|[_,_,_],_=>rfl
def k9:ay ["many","one","other","free","first","low","high","ends"] ["many","one","other","free"] (ak EC):=fD
theorem MZ:Bd "anded" ["many","one","other","free"] EC:=λ_ _ _ _ _ _ us hl=>match us,hl with|[_,_,_,_],_=>rfl
def lL:ay ["many","one","first","second","pair","copies","ends"] ["many","one","first","second"] (ak zS):=fD
theorem Jm:Bd "copied" ["many","one","first","second"] zS:=λ_ _ _ _ _ _ us hl=>match us,hl with|[_,_,_,_],_=>rfl
def ir:ay ["plan","row","walk","ended","traces","scene"] ["plan","row"] (ak zT):=fD
theorem EK:Bd "view_of" ["plan","row"] zT:=λ_ _ _ _ _ _ us hl=>match us,hl with|[_,_],_=>rfl
def xj:ay ["one","other"] ["one","other"] (ak m4):=fD
theorem xk:Bd "told_apart" ["one","other"] m4:=λ_ _ _ _ _ _ us hl=>match us,hl with|[_,_],_=>rfl
def sI:ay ["one","other","traces"] ["one","other"] (ak jR):=fD
theorem sJ:Bd "first_unlike" ["one","other"] jR:=λ_ _ _ _ _ _ us hl=>match us,hl with|[_,_],_=>rfl
def gL:ay ["plan","rows","marks","views","one","other"] ["plan","rows","marks"] (ak lJ):=fD
theorem Ab:Bd "quiet_but" ["plan","rows","marks"] lJ:=λ_ _ _ _ _ _ us hl=>match us,hl with|[_,_,_],_=>rfl
def M5:ay ["plan","rows"] ["plan","rows"] (ak ED):=fD
theorem M6:Bd "quiet" ["plan","rows"] ED:=λ_ _ _ _ _ _ us hl=>match us,hl with|[_,_],_=>rfl
def cZ:ay ["plan","row","due","trace","chance","results","result","part"] ["plan","row","due"] (ak k8):=fD
theorem wd:Bd "first_wrong" ["plan","row","due"] k8:=λ_ _ _ _ _ _ us hl=>match us,hl with|[_,_,_],_=>rfl
def lM:ay ["plan","deals","number","deal","wrong"] ["plan","deals"] (ak zU):=fD
theorem Jn:Bd "judged" ["plan","deals"] zU:=λ_ _ _ _ _ _ us hl=>match us,hl with|[_,_],_=>rfl
def eR:ay ["plan","row","gathered","trace","chance","results","result","part"] ["plan","row"] (ak oN):=fD
theorem EM:Bd "chances" ["plan","row"] oN:=λ_ _ _ _ _ _ us hl=>match us,hl with|[_,_],_=>rfl
def sL:ay ["script","k"] ["script","k"] (ak m6):=fD
theorem sM:Bd "_law_cell_at" ["script","k"] m6:=λ_ _ _ _ _ _ us hl=>match us,hl with|[_,_],_=>rfl
def mD:ay ["script","k","cell"] ["script","k"] (ak qt):=fD
theorem xn:Bd "_law_state" ["script","k"] qt:=λ_ _ _ _ _ _ us hl=>match us,hl with|[_,_],_=>rfl
def gN:ay ["state","many","found","mixed"] ["state","many"] (ak v9):=fD
theorem Ac:Bd "_law_take" ["state","many"] v9:=λ_ _ _ _ _ _ us hl=>match us,hl with|[_,_],_=>rfl
def Ad:ay ["bit"] ["bit"] (ak v_):=fD
theorem Ae:Bd "_law_pair" ["bit"] v_:=λ_ _ _ _ _ _ us hl=>match us,hl with|[_],_=>rfl
def dw:ay ["state","many","numbers","bits","row","number","bit"] ["state","many","numbers","bits"] (ak fX):=fD
theorem m9:Bd "_law_with_pairs" ["state","many","numbers","bits"] fX:=λ_ _ _ _ _ _ us hl=>match us,hl with|[_,_,_,_],_=>rfl
def j6:ay ["state","many","count","left"] ["state","many","count"] (ak iM):=fD
theorem sN:Bd "_law_numbers" ["state","many","count"] iM:=λ_ _ _ _ _ _ us hl=>match us,hl with|[_,_,_],_=>rfl
def ez:ay ["count","found","k"] ["count"] (ak gf):=fD
theorem qC:Bd "_law_all_bits" ["count"] gf:=λ_ _ _ _ _ _ us hl=>match us,hl with|[_],_=>rfl
def xo:ay ["many","plan"] ["many","plan"] (ak qv):=fD
theorem xp:Bd "_law_ended" ["many","plan"] qv:=λ_ _ _ _ _ _ us hl=>match us,hl with|[_,_],_=>rfl
def xq:ay ["plan","rows","dues"] ["plan","rows","dues"] (ak qw):=fD
theorem xt:Bd "_law_right" ["plan","rows","dues"] qw:=λ_ _ _ _ _ _ us hl=>match us,hl with|[_,_,_],_=>rfl
def cK:ay ["many","rows","numbers","one","other","free","bits","either","dues"] ["many","rows","numbers"] (ak oO):=fD
theorem Co:Bd "_law_two" ["many","rows","numbers"] oO:=λ_ _ _ _ _ _ us hl=>match us,hl with|[_,_,_],_=>rfl
def cu:ay ["many","rows","numbers","one","other","free","turned_twice","row","plan","some"] ["many","rows","numbers"] (ak lK):=fD
theorem xu:Bd "_law_twice" ["many","rows","numbers"] lK:=λ_ _ _ _ _ _ us hl=>match us,hl with|[_,_,_],_=>rfl
def qD:ay ["script","k","state","many","numbers","rows"] ["script"] (ak zV):=fD
structure Txt (mg:Str->Option d):Prop where
 zmq:mg "abs"=L
 zoq:mg "all"=L
 ziq:mg "dict"=L
 zdq:mg "enumerate"=L
 zjq:mg "len"=L
 zhq:mg "list"=L
 zlq:mg "max"=L
 zkq:mg "min"=L
 zgq:mg "range"=L
 zeq:mg "sorted"=L
 zpq:mg "sum"=L
 zfq:mg "tuple"=L
 znq:mg "zip"=L
 zaq:∃tk,mg "MOST_PILES_MIXED"=J (.int 4 tk)
 zcq:∃tk,mg "MOST_PLANS"=J (.int 60 tk)
 zbq:∃tk,mg "MOST_WITHIN"=J (.int 12 tk)
end Hc
section
set_option maxHeartbeats 400000
namespace Hc
open PySem L2
abbrev m_:Ë:=jv (top 28) 0
def M7:ay ["self"] ["self"] (ak m_):=⟨rfl,rfl,rfl,by decide+kernel,rfl,by decide+kernel,by decide+kernel⟩
section
variable {base:É}
theorem EN (F:HF K "__init__" "Round.__init__" m_ f fd)(co:CO K C ["ends","mean"]):gE P w K mg base pD 2 f fd ["self"] (aad K C):=by
 refine F.ok M7 (λvs H Q E ⟨x,dx,e,_⟩=>by rw[e];rfl) λcS A outer s H vs Q E hr ⟨x,dx,e,hx,q⟩=>?_;subst e;have h:R9 (j8 pD P w K mg base ["self"] "Round.__init__" (ak m_) f cS A outer s H E).nox (bf m_) _:=eL (P1 (wv 0)) (eL (P0 (wv 0) (Mx vF vG vF vG vF vG vF vG vF vG)) vE);exact⟨_,h.un,Ux co rfl hx q⟩
noncomputable abbrev wN:List Str:=["plan","row","walk","waiting","scene","form"]
theorem Qj (T:Txt mg)(cR:Bt K mg "Round" "Round.__init__" m_ ["ends","mean"])(QQ:Bs P w K mg base "Scene" 1 ["plan","trace","bottom","weights"])(Vu:Fn P w K mg base "plus" 3 ["one","other"] (eG K 2 cE .S))(CQ:Fn P w K mg base "chance_of" 3 ["scene"] (eG K 1 a8 .S))(sX:Fn P w K mg base "scenes_behind" 4 ["scene"] (eG K 1 aF .O))(d:Df K mg "walk_once" ji):Fn P w K mg base "walk_once" 5 ["plan","row"] (eG K 2 eT .S):=by
 obtain⟨C,fR,fdR,hm,Mqq,co,FR⟩:=cR.ex;have FI:=EN (P:=P) (w:=w) (mg:=mg) (base:=base) FR co;have hl:∀(us:List U) (A:I->Prop) (H:Hp) (Q:VK),Kw K .S A H (wQ 2 eT us) Q->us.length=2:=λus A H Q h=>by
  unfold wQ at h;split at h
  ·assumption
  ·exact h.elim
 refine Df.fn d fy z_ (λvs H Q E ⟨us,A,r,_,h⟩=>by rw[<-r.length];exact hl us A H Q h) λf cS A outer s H vs Q E hr ⟨us,A0,r,mu,h⟩=>?_;have l:=hl us A0 H Q h;have hu:=hr.units;have Az:=xM hr
 match us,l with
 | [pl,row],_=>
  have hs:R9 (j8 pD P w K mg base wN _ _ f cS A outer s H E).nox (bf ji) _:=
   eL (zB (i:=2) fy.nd (My Mqq FI (hr.mono (by decide)) hm (FR.binds (λ_ _ _ _ _ _ us hl=>match us,hl with|[_],_=>rfl))))
   (eL (zB (i:=3) fy.nd (BZ (G:=G3) (eD (af (tH QQ (hr.mono (by decide)) (af (aj 0) (af (aM ai) (af au (af (Mn (j:=1) hu) ai))))) ai))))
   (eL (Mw ô (R_ (G:=G3) (bJ AU uG (a_ bQ cH (by rfl) T.zjq dS (af (gh 3) ai)) au (bp _)))
    (eL (zB (i:=4) fy.nd (BZ (G:=G3) (O3 (i:=3) ń PySem.F.slot_list_pop PySem.F.type_list_pop Tg Pe)))
    (eL (zB (i:=5) fy.nd (BZ (G:=G3) (aL aB aE (bz (aj 4)) au (λ_ _=>rfl))))
    (eL (PZ Az (Ej (wv 2)) (wv 5) (Mv Vu (hr.mono (by decide)) (PY Az (Ej (wv 2)) (wv 5)) (BZ (G:=G3) (ao CQ (hr.mono (by decide)) (af (aj 4) ai)))))
    (eL (XM (R_ (G:=G3) (bJ gS dq (aj 5) bN (bp _))) (eL (GA (IZ (Ej (wv 2)) (wv 4))) vE) vE)
    (eL (GA (BZ (G:=G3) (mI (i:=3) ń π ρ tF jE (af (ao sX (hr.mono (by decide)) (af (aj 4) ai)) ai)))) vE))))))
   (eL (Uy (wv 2)) vE)))
  refine⟨_,hs.un,?_⟩;cases row with
  |tup ks=>
   by_cases kt:fE (.tup ks)=Z
   ·have h:Kw K .S A0 H (if fE (.tup ks)=Z then vD _ cE _ 400 _ [] _ else .stk) Q:=h;rw[h_ kt] at h;cases hz:vD _ cE _ 400 _ [] _ with
    |exc=>rw[hz] at h;exact h.elim
    |stk=>rw[hz] at h;exact h.elim
    |ok z=>
     rw[hz] at h;intro aw dx naw ndx ne;refine⟨aw,dx,rfl,aI,λae am ts H1 Oc Od nem keep hw he hmm lt rts=>⟨rfl,?_⟩⟩;have fr:∀a,bc (bc H dx (.own aw)) aw (.ins C dx []) a=L->H a=L:=λa e=>by
      have e1:a≠aw:=λz=>by rw[z,aI] at e;cases e
      rw[aG e1] at e;have e2:a≠dx:=λz=>by rw[z,aI] at e;cases e
      simp_all[aG]
     have sm:aN H H1:=λb o e=>by
      have e1:b≠aw:=λz=>by lia
      have e2:b≠dx:=λz=>by lia
      exact keep b o e1 (by rw[aG e1,aG e2];exact e)
     have Oc:=fr _ Oc;have Od:=fr _ Od;have q0:=Iv (G:=G3) (N:=wN) r mu rfl (λi hi=>match i,hi with|0,_=>rfl|1,_=>rfl);have nA:∀b,ZA A0 ae am b->A0 b\/H b=L:=λb hb=>by
      lia
     have R0:cz K G3 ⟨ZA A0 ae am,H1,0⟩ _ [J pl,J (.tup ks),L,L,L,L] ((f6 wN vs).set 2 (J (.ref aw))) H1:={
      slot:=λi u hi=>by
       have VQ:i<2:=by
        match i,hi with
        |0,_=>decide
        |1,_=>decide
        |2,h=>cases h
        |3,h=>cases h
        |4,h=>cases h
        |5,h=>cases h
       obtain⟨v,h1,h2⟩:=q0.slot i u hi;refine⟨v,by rw[ē (by lia)];exact h1,?_⟩;have c:¬G3.is i=Z:=λc=>by have:=Gz c;lia
       rw[hZ c] at h2 |-;exact h2.re mu (dP.same sm) nA
      dis:=λi j u w a ci cj ne hi hj _ _=>absurd ((Gz ci).trans (Gz cj).symm) ne
      mu:=λa ha=>by
       rcases ha with ha|rfl|rfl
       ·obtain⟨o,ho⟩:=(mu a ha).ex;have:=mu a ha;rw[sm a o ho,<-ho];exact this
       ·rw[he];exact True.intro
       ·rw[hmm];exact True.intro
      sup:=λa h=>h
      out:=λa h=>.inl h
      bas:=λa o h=>h
      io0:=λh=>by cases h
      len:=by rw[ġ];exact q0.len}
     refine⟨⟨ZA A0 ae am,H1,0⟩,ZA A0 ae am,[J pl,J (.tup ks),L,L,L,L],R0,?_⟩;have eg:∀{g:Ev->R (U×Ev)} {Q:VK} {b m Y H},g [J pl,J (.tup ks),L,L,L,L]=.ok (.lst [.obj SF [pl,.tup [],.int 1,.dct [.tup ks] [.int 1]]],[J pl,J (.tup ks),L,L,L,L])->HV K G3 _ (ZA A0 ae am) b m [J pl,J (.tup ks),L,L,L,L] Y H _ Q->HV K G3 ⟨ZA A0 ae am,H1,0⟩ _ b m _ Y H (g _) Q:=λe h=>by rw[e];exact h
     refine eg (by simp[eZ,ag,ar,zo,ah,aU,gC,gDV,R.bind,kt,SF];decide) ?_;intro v H2 q2 x2 _ vm;obtain⟨al,rfl,na,nb,rl,tp⟩:=vm;have wj:WJ K A0 H C aw dx al ae am [] (ù 5 VI) [J pl,J (.tup ks),L,J (.lst [.obj SF [pl,.tup [],.int 1,.dct [.tup ks] [.int 1]]]),L,L] (((f6 wN vs).set 2 (J (.ref aw))).set 3 (J (.ref al))) H2:=by
      have l6:(f6 wN vs).length=6:=q0.len.symm;have r3:=q2.setO (i:=3) rfl (λh=>by cases h) na nb rl tp;have s3:(((f6 wN vs).set 2 (J (.ref aw))).set 3 _)[3]? = J (J (.ref al)):=ŉ (by rw[ġ,l6];decide);have le:=λz=>na (.inr (.inl z));have lm:=λz=>na (.inr (.inr z));refine {r:=reZ r3 s3 (λa h=>h) (λ_ _ _ e=>e) rfl r3.mu,s2:=by rw[ē (by decide)];exact ŉ (by rw[l6];decide),s3:=s3,bas:=λb o e=>q2.bas b o (sm b o e),w:=q2.bas _ _ hw,e:=⟨[],q2.bas _ _ he,aP.nil⟩,m:=⟨ts,q2.bas _ _ hmm,lt,rts _ |>.same λb o e=>q2.bas b o e⟩,nl:= ?_,ne:=Oc,nm:=Od,le:=le,lm:=lm,em:=nem};cases e:H al with
      |none=>rfl
      |some o=>rw[show (⟨ZA A0 ae am,H1,0⟩:Pkg).B al=H1 al from rfl,sm al o e] at nb;cases nb
     refine⟨λm Y H'=>∃ws es ms r4 r5,WJ K A0 H C aw dx al ae am es ms [J pl,J (.tup ks),L,J (.lst ws),r4,r5] Y H'/\vD _ cE _ m ws es ms=.ok z,⟨400,_,_,_,_,_,wj,hz⟩,?_⟩;rintro m Y H3 ⟨ws,es,ms,r4,r5,wj,ew⟩;cases m with
     |zero=>cases ew
     |succ n=>
      refine wj.tst rfl λH4 wj=>?_;cases hsc:ws[ws.length-1]? with
      |none=>
       have l0:ws.length=0:=by have:=adG.mp hsc;lia
       rw[hZ (by rw[l0];decide)];unfold vD at ew;rw[hsc] at ew;dsimp only at ew;split at ew
       ·cases ew;refine⟨.ref aw,wj.s2,h _ H4 wj.bas ?_⟩;obtain⟨ys,e1,e2⟩:=wj.e;obtain⟨ts,m1,m2,m3⟩:=wj.m;have no:∀a,H a=L->¬A0 a:=λa e z=>by have:=mu a z;rw[e] at this;exact this
        have lw:∀b,A0 b->AA A0 al ae am b\/H4 b=L:=λb z=>.inl (.inl (.inl z));have sl:Å=16777216:=rfl;show Rp K H4 A0 _ _;refine⟨aw,C,dx,[.ref ae,.ref am],rfl,wj.w,co,rfl,aP.cons ?_ (aP.cons ?_ aP.nil)⟩
        ·exact⟨ae,ys,rfl,no _ wj.ne,e1,by lia,e2.re wj.r.mu dP.refl lw⟩
        ·refine⟨am,ts,rfl,no _ wj.nm,.inl ⟨_,m1,?_,?_⟩,by rw[m3.length,m2];decide,m3.re wj.r.mu dP.refl lw⟩
         ·match ts,m2 with|[_,_,_,_,_],_=>rfl
         ·match ts,m2 with|[_,_,_,_,_],_=>rfl
       ·cases ew
      |some sc=>
       have l0:0<ws.length:=by
        grind
       rw[h_ (by simpa using l0)];obtain⟨pn,fw,i,c,mm,v,kk,e1,e2,e3,e4,e5,e6,e7,e8,e9,ew⟩:=P2 hsc ew;refine⟨λY' H'=>∃ws es ms r4 r5,WJ K A0 H C aw dx al ae am es ms _ Y' H'/\vD _ cE _ n ws es ms=.ok z,λY' H' q=>⟨n,ζ n,q⟩,?_⟩;refine wj.ev (u:=sc) (B':=[J pl,J (.tup ks),L,J (.lst ws.dropLast),r4,r5]) (by simp[gM,T1,hsc,R.bind,ar,y_]) (by decide) λv1 H5 wj x5 rv=>?_;have wj:=wj.set (i:=4) (by decide) (by decide) rfl rv;refine wj.ev (u:=.str fw) (B':=[J pl,J (.tup ks),L,J (.lst ws.dropLast),J sc,r5]) (by simp[aS,gT,ah,gC,e1,e2,R.bind]) (by decide) λv2 H6 wj x6 rw2=>?_;have wj:=wj.set (i:=5) (by decide) (by decide) rfl rw2;obtain⟨ts,m1,m2,m3⟩:=wj.m;obtain⟨t,k1,rt⟩:=m3.get e5;obtain⟨_,⟨t',k1',k2⟩,_⟩:=BY e3 m2 .non;rw[k1] at k1';cases k1';obtain⟨v5,s5,r5'⟩:=wj.r.val (i:=5) rfl rfl;subst r5';refine⟨.ref aw,wj.s2,aw,C,dx,_,.ref am,rfl,wj.w,co.cl,co.no _ (by simp),rfl,.str fw,s5,am,t,rfl,(by rw[<-k2];exact yZ.k (k:=.inr fw) m1),?_⟩;refine wj.ev (u:=c) (B':=[J pl,J (.tup ks),L,J (.lst ws.dropLast),J sc,J (.str fw)]) (by simp[bq,wQ,ag,ar,ah,e4,R.bind]) (by decide) λvc H7 wj7 x7 rc=>?_;refine⟨[mm,c],AA A0 al ae am,aP.cons (rt.re wj.r.mu x7 λb z=>.inl z) (aP.cons rc aP.nil),wj7.r.mu,?_⟩;rw[show wQ 2 cE [mm,c]=.ok v from e6];intro v' H8 sm8 rv8;have wj:=wj7.same sm8;obtain⟨ts',m1',m2',m3'⟩:=wj.m;have wj9:=wj.upM (by grind) (m3'.set i rv8);refine⟨.ref aw,wj.s2,aw,C,dx,_,.ref am,rfl,wj.w,co.cl,co.no _ (by simp),rfl,.str fw,s5,am,_,rfl,HG.k (k:=.inr fw) m1' (by match ts',m2' with|[_,_,_,_,_],_=>exact (show (5:Nat)<Å by decide)),?_⟩;rw[(BY e3 m2' v').2.2];refine wj9.tst (c:=decide _) rfl λHa wj=>?_;by_cases hf:fw="end"
       ·rw[h_ (hJ hf)];obtain⟨ys,y1,y2⟩:=wj.e;have ly:=y2.length;have sl:Å=16777216:=rfl;obtain⟨v4',s4',r4''⟩:=wj.r.val (i:=4) rfl rfl;refine⟨.ref aw,wj.s2,aw,C,dx,_,.ref ae,rfl,wj.w,co.cl,co.no _ (by simp),rfl,Dy (u:=.lst es) ⟨ys,y1,by lia,y2⟩ rfl,v4',s4',ae,ys,v4',rfl,rfl,y1,by lia,?_⟩;refine (wj.upE (y2.append (aP.cons r4'' aP.nil))).ev (by simp[gM,bq,wQ,ag,ar,ah,e7,R.bind,y_,jD];rw[h_ (by lia)]) (by decide) λ_ Hb wj _ _=>⟨_,_,_,_,_,wj,by lia⟩
       ·rw[hZ (λz=>hf (of_decide_eq_true z))];have sl:Å=16777216:=rfl;refine wj.ev (by simp[gM,bq,wQ,ag,ar,ah,e7,R.bind,y_,jD];rw[h_ (by lia)]) (by decide) λ_ Hb wj _ _=>⟨_,_,_,_,_,wj,by lia⟩
   ·have h:Kw K .S A0 H (if fE (.tup ks)=Z then vD _ cE _ 400 _ [] _ else .stk) Q:=h;rw[hZ kt] at h;exact h.elim
  |_=>exact h.elim
end
end Hc
end
namespace Hc
open L2
section
variable {base:É}
structure Ds (R:Str->Ë->Prop):Prop where
 q0:R "greatest_divisor" fP
 q1:R "ratio" EA
 q2:R "plus" MS
 q3:R "times" EB
 q4:R "over" MT
 q5:R "cards_at" oJ
 q6:R "counted" vZ
 q7:R "spread" zP
 q8:R "exchanged" mZ
 q9:R "arrangements" cN
 q10:R "pile_mix" oK
 q11:R "plans_within" gJ
 q12:R "levels_of" qm
 q13:R "plans_in" oM
 q14:R "chance_of" qo
 q15:R "behind_orders" iX
 q16:R "behind_look" iL
 q17:R "scenes_behind" iY
 q18:R "walk_once" ji
 q19:R "round_of" v7
 q20:R "results_of" jQ
 q21:R "walked" tP
 q22:R "with_more" gP
 q23:R "tells_all_places" eM
 q24:R "is_too_great" kZ
 q25:R "followed" qp
 q26:R "pair_at" zQ
 q27:R "turned" zR
 q28:R "whole_end" lH
 q29:R "mixed_and_seen" iZ
 q30:R "turning" k7
 q31:R "choosing" qr
 q32:R "negated" v8
 q33:R "oned" MU
 q34:R "anded" EC
 q35:R "copied" zS
 q36:R "view_of" zT
 q37:R "told_apart" m4
 q38:R "first_unlike" jR
 q39:R "quiet_but" lJ
 q40:R "quiet" ED
 q41:R "first_wrong" k8
 q42:R "judged" zU
 q43:R "chances" oN
 q44:R "_law_cell_at" m6
 q45:R "_law_state" qt
 q46:R "_law_take" v9
 q47:R "_law_pair" v_
 q48:R "_law_with_pairs" fX
 q49:R "_law_numbers" iM
 q50:R "_law_all_bits" gf
 q51:R "_law_ended" qv
 q52:R "_law_right" qw
 q53:R "_law_two" oO
 q54:R "_law_twice" lK
 q55:R "law" zV
structure Al (K:È)(mg:Str->Option d):Prop extends Txt mg where
 D:Ds (Df K mg)
 c_Round:Bt K mg "Round" "Round.__init__" m_ ["ends","mean"]
 c_Scene:Bt K mg "Scene" "Scene.__init__" zW ["plan","trace","bottom","weights"]
 c_View:Bt K mg "View" "View.__init__" GJ ["again","traces"]
theorem qE (c:Bt K mg "Scene" "Scene.__init__" zW ["plan","trace","bottom","weights"]):Bs P w K mg base "Scene" 1 ["plan","trace","bottom","weights"]:=LQ c MV rfl (by decide) (λ_ _ _ _ _ _ us hl=>match us,hl with|[_,_,_,_,_],_=>rfl) λ_ _ _ _ _ _ _=>.cons (pv 0) (pv 1) rfl (.cons (pv 0) (pv 2) rfl (.cons (pv 0) (pv 3) rfl (.cons (pv 0) (pv 4) rfl (.nil))))
theorem M8 (c:Bt K mg "View" "View.__init__" GJ ["again","traces"]):Bs P w K mg base "View" 1 ["again","traces"]:=LQ c Qd rfl (by decide) (λ_ _ _ _ _ _ us hl=>match us,hl with|[_,_,_],_=>rfl) λ_ _ _ _ _ _ _=>.cons (pv 0) (pv 1) rfl (.cons (pv 0) (pv 2) rfl (.nil))
def l8 (T:Al K mg):Fn P w K mg base "greatest_divisor" 1 ["one","other"] (eG K 2 du .S):=(cy P w base 0 mS .S eO T.D.q0 bH l5 λhr hu=>(aq (aY (i:=0) bH.nd (a_ AV FD (by rfl) T.zmq Kn (af (aj 0) ai)))
 (aq (aY (i:=1) bH.nd (a_ AV FD (by rfl) T.zmq Kn (af (aj 1) ai)))
 (aq (Be ô (bJ QT Gj (aj 1) au (bp _))
 (aq (aY (i:=2) bH.nd (aW ki iE (aj 0) (aj 1)))
 (aq (aY (i:=0) bH.nd (aj 1))
 (ax (aY (i:=1) bH.nd (aj 2))))))
 (ax (aQ (aj 0)))))) :)
def k_ (T:Al K mg):Fn P w K mg base "ratio" 2 ["top","bottom"] (eG K 2 gG .S):=(cy P w base 1 P_ .S zC T.D.q1 wa MW λhr hu=>(aq (aY (i:=2) wa.nd (ao (l8 T) (rm hr) (af (aj 0) (af (aj 1) ai))))
 (aq (c9 (bJ QU KP (aj 1) au (bp _)) (ax (aY (i:=2) wa.nd (WL Ta Pb (aj 2)))) bt)
 (ax (aQ (aM (af (aW i9 kz (aj 0) (aj 2)) (af (aW i9 kz (aj 1) (aj 2)) ai))))))) :)
def GK (T:Al K mg):Fn P w K mg base "plus" 3 ["one","other"] (eG K 2 cE .S):=(cy P w base 2 Uz .S Ep T.D.q2 Qe Qf λhr hu=>(ax (aQ (ao (k_ T) (rm hr) (af (aW bu bw (aW de b_ (aL aB aE (aj 0) au (λ_ _=>rfl)) (aL aB aE (aj 1) au (λ_ _=>rfl))) (aW de b_ (aL aB aE (aj 1) au (λ_ _=>rfl)) (aL aB aE (aj 0) au (λ_ _=>rfl)))) (af (aW de b_ (aL aB aE (aj 0) au (λ_ _=>rfl)) (aL aB aE (aj 1) au (λ_ _=>rfl))) ai))))) :)
def M9 (T:Al K mg):Fn P w K mg base "times" 3 ["one","other"] (eG K 2 zD .S):=(cy P w base 2 Qa .S GG T.D.q3 MX MY λhr hu=>(ax (aQ (ao (k_ T) (rm hr) (af (aW de b_ (aL aB aE (aj 0) au (λ_ _=>rfl)) (aL aB aE (aj 1) au (λ_ _=>rfl))) (af (aW de b_ (aL aB aE (aj 0) au (λ_ _=>rfl)) (aL aB aE (aj 1) au (λ_ _=>rfl))) ai))))) :)
def GN (T:Al K mg):Fn P w K mg base "over" 3 ["one","other"] (eG K 2 mT .S):=(cy P w base 2 UA .S Er T.D.q4 Qg Qh λhr hu=>(ax (aQ (ao (k_ T) (rm hr) (af (aW de b_ (aL aB aE (aj 0) au (λ_ _=>rfl)) (aL aB aE (aj 1) au (λ_ _=>rfl))) (af (aW de b_ (aL aB aE (aj 0) au (λ_ _=>rfl)) (aL aB aE (aj 1) au (λ_ _=>rfl))) ai))))) :)
def lh (T:Al K mg):Fn P w K mg base "cards_at" 1 ["row","places"] (eG K 2 eQ .S):=(cy P w base 0 Es .S mU T.D.q5 Cb Cc λhr hu=>(ax (aQ (dH bP ed (by rfl) T.zfq eX (af (dU (ak oJ) ["row","places"] ["place","row"] [L,J 0] rfl (bC (aj 1)) (λYqq=>⟨(az (i:=0) (show (["place","row"]:List Str).Nodup by decide+kernel)),bB,(aL aB aE (aj 1) (aj 0) (λ_ _=>rfl))⟩)) ai)))) :)
def EO (T:Al K mg):Fn P w K mg base "counted" 1 ["shuffle"] (eG K 1 lF .O):=(cy P w base 0 Jc .O qd T.D.q6 m7 EE λhr hu=>(aq (dQ (i:=1) m7.nd jc)
 (aq (cB ô rfl (bC (aj 0)) (az (i:=2) m7.nd)
 (ax (og (j:=1) hu (aW bu bw (n_ (j:=1) hu (aj 2) au) au) (aj 2))))
 (ax (nR (i:=1) (hi:=by decide))))) :)
def Jo (T:Al K mg):Fn P w K mg base "spread" 2 ["weights","shuffle"] (eG K 2 oH .O):=(cy P w base 1 ML .O vK T.D.q7 fQ Ji λhr hu=>(aq (dQ (i:=2) fQ.nd jc)
 (aq (cB ô rfl (ow (ao (EO T) (rm hr) (af (aj 1) ai))) (e_ rfl (aR (az (i:=3) fQ.nd) (aR (az (i:=4) fQ.nd) cV)))
 (ax (cB ô rfl (ow (aj 0)) (e_ rfl (aR (az (i:=5) fQ.nd) (aR (az (i:=6) fQ.nd) cV)))
 (aq (aY (i:=7) fQ.nd (ao (lh T) (rm hr) (af (aj 5) (af (aj 3) ai))))
 (ax (og (j:=2) hu (aW bu bw (n_ (j:=2) hu (aj 7) au) (aW de b_ (aj 6) (aj 4))) (aj 7)))))))
 (ax (nR (i:=2) (hi:=by decide))))) :)
def Af (T:Al K mg):Fn P w K mg base "exchanged" 1 ["many","piles","sources"] (eG K 3 rR .S):=(cy P w base 0 B2 .S rQ T.D.q8 eo zX λhr hu=>(aq (dQ (i:=3) eo.nd (tw rfl (af (aj 0) ai) T.zhq T.zgq))
 (aq (cB ô rfl (zk (af (aj 1) (af (aj 2) ai)) T.znq) (e_ rfl (aR (az (i:=4) eo.nd) (aR (az (i:=5) eo.nd) cV)))
 (ax (cB ô rfl (zk (af (aj 4) (af (aL aB aE (aj 1) (aj 5) (λ_ _=>rfl)) ai)) T.znq) (e_ rfl (aR (az (i:=6) eo.nd) (aR (az (i:=7) eo.nd) cV)))
 (ax (jC (i:=3) (aj 7) (aj 6))))))
 (ax (aQ (dH bP ed (by rfl) T.zfq eX (af (gh 3) ai)))))) :)
theorem sO (T:Al K mg):∀n,Fn P w K mg base "arrangements" (n+1) ["numbers"] (eG K 1 (kJ n) .O):=by
 intro n
 induction n with
 |zero=>
  refine Df.fnD (N:=["numbers","told","number","rest"]) (ps:=["numbers"]) (st:=cN) (k:=0) kI .O (fj 0) T.D.q9 dD j5 rfl (by decide) ?_;intro f cS A outer s0 H E hr;have hu:=hr.units;have Az:=xM hr;exact FH
 |succ n F_arrangements=>
  refine Df.fnD (N:=["numbers","told","number","rest"]) (ps:=["numbers"]) (st:=cN) (k:=n+1) kI .O (fj (n+1)) T.D.q9 dD j5 rfl (by decide) ?_;intro f cS A outer s0 H E hr;have hu:=hr.units;have Az:=xM hr;exact (aq (c9 (bJ gS dq (a_ bQ cH (by rfl) T.zjq dS (af (aj 0) ai)) au (bp _)) (ax (fb (eD (af (aM ai) ai)))) bt)
 (aq (dQ (i:=1) dD.nd (eD ai))
 (aq (cB ô rfl (bC (aj 0)) (az (i:=2) dD.nd)
 (aq (lB (i:=3) (ak cN) ["numbers","told","number","rest"] ["other","number"] [L,J 2] dD.nd rfl (bC (aj 0)) (λYqq=>⟨(az (i:=0) (show (["other","number"]:List Str).Nodup by decide+kernel)),(nW (bJ QT Gj (aj 0) (aj 1) (bp _))),(aj 0)⟩))
 (ax (nQ (mI (i:=1) ń π ρ tF jE (af (dU (ak cN) ["numbers","told","number","rest"] ["more","number"] [L,J 2] rfl (bC (m1:=.O) (ao F_arrangements (rm hr) (af (aj 3) ai))) (λYqq=>⟨(az (i:=0) (show (["more","number"]:List Str).Nodup by decide+kernel)),bB,(aW bu bw (aM (af (aj 1) ai)) (aj 0))⟩)) ai))))))
 (ax (nR (i:=1) (hi:=by decide))))))
theorem Cp (T:Al K mg):Fn P w K mg base "pile_mix" 22 ["many","piles"] (eG K 2 vM .S):=by
 obtain⟨gA,zaq⟩:=T.zaq;exact (cy P w base 21 Et .S vL T.D.q10 Cd Ce λhr hu=>(aq (c9 (bJ AU uG (a_ bQ cH (by rfl) T.zjq dS (af (aj 1) ai)) (uq (i:=4) rfl zaq) (bp _)) (ax (uL λ_=>⟨_,_,rfl⟩)) bt)
 (ax (aQ (dH bP ed (by rfl) T.zfq eX (af (dU (ak oK) ["many","piles"] ["sources","many","piles"] [L,J 0,J 1] rfl (bC (m1:=.O) (ao ((sO T) 20) (rm hr) (af (tw rfl (af (a_ bQ cH (by rfl) T.zjq dS (af (aj 1) ai)) ai) T.zhq T.zgq) ai))) (λYqq=>⟨(az (i:=0) (show (["sources","many","piles"]:List Str).Nodup by decide+kernel)),bB,(ao (Af T) (rm hr) (af (aj 1) (af (aj 2) (af (aj 0) ai))))⟩)) ai))))) :)
def sP (T:Al K mg):Fn P w K mg base "plans_within" 1 ["plans"] (eG K 1 kM .O):=(cy P w base 0 vN .O kK T.D.q11 gu sF λhr hu=>(aq (dQ (i:=1) gu.nd (eD ai))
 (aq (cB ô rfl (bC (aj 0)) (az (i:=2) gu.nd)
 (ax (c9 (DW.dt (Q2 (bJ gS dq (aL aB aE (aj 2) au (λ_ _=>rfl)) bN (bp _)) (Kv (bJ gS dq (aL aB aE (aj 2) au (λ_ _=>rfl)) bN (bp _))))) (ax (nQ (mI (i:=1) ń Ϡ ϡ pO uF (af (aL aB aE (aj 2) au (λ_ _=>rfl)) ai)))) (ax (c9 (bJ gS dq (aL aB aE (aj 2) au (λ_ _=>rfl)) bN (bp _)) (ax (nQ (mI (i:=1) ń π ρ tF jE (af (dU (ak gJ) ["plans","inner","plan"] ["way"] [L] rfl (bC (aL aB aE (aj 2) au (λ_ _=>rfl))) (λYqq=>⟨(az (i:=0) (show (["way"]:List Str).Nodup by decide+kernel)),bB,(aL aB aE (aj 0) au (λ_ _=>rfl))⟩)) ai)))) bt)))))
 (ax (nR (i:=1) (hi:=by decide))))) :)
def jT (T:Al K mg):Fn P w K mg base "levels_of" 2 ["plan"] (eG K 1 iH .O):=(cy P w base 1 B3 .O rS T.D.q12 gK zY λhr hu=>(aq (dQ (i:=1) gK.nd (eD ai))
 (aq (aY (i:=2) gK.nd (eD (af (aj 0) ai)))
 (aq (Be ô (bJ AU uG (a_ bQ cH (by rfl) T.zjq dS (af (aj 2) ai)) au (bp _))
 (aq (nQ (mI (i:=1) ń Ϡ ϡ pO uF (af (aj 2) ai)))
 (ax (aY (i:=2) gK.nd (ao (sP T) (rm hr) (af (aj 2) ai))))))
 (ax (nR (i:=1) (hi:=by decide)))))) :)
def Cq (T:Al K mg):Fn P w K mg base "plans_in" 3 ["plan"] (eG K 1 vP .S):=(cy P w base 2 Eu .S vO T.D.q13 Cf Cg λhr hu=>(ax (aQ (a_ (IG rfl) Mf (by rfl) T.zpq Ko (af (dU (ak oM) ["plan"] ["level"] [L] rfl (bC (m1:=.O) (ao (jT T) (rm hr) (af (aj 0) ai))) (λYqq=>⟨(az (i:=0) (show (["level"]:List Str).Nodup by decide+kernel)),bB,(a_ bQ cH (by rfl) T.zjq dS (af (aj 0) ai))⟩)) ai)))) :)
def jU (T:Al K mg):Fn P w K mg base "chance_of" 3 ["scene"] (eG K 1 a8 .S):=(cy P w base 2 B4 .S kN T.D.q14 zZ z9 λhr hu=>(ax (aQ (ao (k_ T) (rm hr) (af (Gg rfl (bz (aj 0)) T.zpq) (af (bz (aj 0)) ai))))) :)
def jj (T:Al K mg):Fn P w K mg base "behind_orders" 3 ["scene","orders"] (eG K 2 dC .S):=(cy P w base 2 sC .S gr T.D.q15 qx qy λhr hu=>(ax (aQ (tH (qE T.c_Scene) (rm hr) (VD (bg (aL aB aE (bz (aj 0)) au (λ_ _=>rfl)) (bg (bz (aj 0)) (bg (aW de b_ (bz (aj 0)) (a_ bQ cH (by rfl) T.zjq dS (af (aj 1) ai))) (bg (ao (Jo T) (rm hr) (af (bz (aj 0)) (af (aj 1) ai))) lD)))))))) :)
def we (T:Al K mg):Fn P w K mg base "behind_look" 3 ["scene"] (eG K 1 fV .O):=(cy P w base 2 xg .O iU T.D.q16 cC wc λhr hu=>(aq (dQ (i:=1) cC.nd jc)
 (aq (PB (Up ô rfl (ow (bz (aj 0))) (e_ rfl (aR (az (i:=2) cC.nd) (aR (az (i:=3) cC.nd) cV)))
 (BW (Ut (ao (lh T) (rm hr) (af (aj 2) (af (aL aB aE (bz (aj 0)) au (λ_ _=>rfl)) ai))) (az (i:=4) cC.nd))
 (BW (Uv hu (aj 4) (Gn (PN hu (aj 4) (PH (m:=1)))) Pz)
 (Gn (PQ hu (Uu hu (PJ 1) (aj 4)) (aj 2) (aj 3)))))))
 (ox 1 (aq (aY (i:=5) cC.nd (dH (Em rfl hu) Ja (by rfl) T.ziq OT (af (aL aB aE (bz (aj 0)) au (λ_ _=>rfl)) ai)))
 (aq (cB ô rfl (F9 (aj 1)) (az (i:=4) cC.nd)
 (ax (c9 (bJ (ya hu) Pj (aj 4) (aj 5) (by rfl)) (ax (uL λ_=>⟨_,_,rfl⟩)) bt)))
 (ax (fb (dU (ak iL) ["scene","parts","row","weight","seen","ways"] ["seen","ways","scene","parts"] [L,J 5,J 0,J 1] rfl (F9 (aj 1)) (λYqq=>⟨(az (i:=0) (show (["seen","ways","scene","parts"]:List Str).Nodup by decide+kernel)),bB,(tH (qE T.c_Scene) (rm hr) (VD (bg (mM hu (aj 1) (aj 0)) (bg (aW bu bw (bz (aj 2)) (aM (af (aj 0) ai))) (bg (bz (aj 2)) (bg (mM hu (aj 3) (aj 0)) lD))))))⟩))))))))) :)
def qF (T:Al K mg):Fn P w K mg base "scenes_behind" 4 ["scene"] (eG K 1 aF .O):=(cy P w base 3 sD .O bY T.D.q17 qz qA λhr hu=>(aq (c9 (bJ gS dq (aL aB aE (bz (aj 0)) au (λ_ _=>rfl)) bN (bp _)) (ax (fb (eD (af (ao (jj T) (rm hr) (af (aj 0) (af (aM (af (aL aB aE (bz (aj 0)) au (λ_ _=>rfl)) ai)) ai))) ai)))) bt)
 (aq (c9 (bJ gS dq (aL aB aE (bz (aj 0)) au (λ_ _=>rfl)) bN (bp _)) (ax (fb (eD (af (ao (jj T) (rm hr) (af (aj 0) (af (aL aB aE (bz (aj 0)) au (λ_ _=>rfl)) ai))) ai)))) bt)
 (aq (c9 (bJ gS dq (aL aB aE (bz (aj 0)) au (λ_ _=>rfl)) bN (bp _)) (ax (fb (ao (we T) (rm hr) (af (aj 0) ai)))) bt)
 (ax (fb (eD ai)))))) :)
def Ag (T:Al K mg):Fn P w K mg base "walk_once" 5 ["plan","row"] (eG K 2 eT .S):=Qj (P:=P) (w:=w) (base:=base) T.toTxt T.c_Round (qE T.c_Scene) (GK T) (jU T) (qF T) T.D.q18
def r6 (T:Al K mg):Fn P w K mg base "round_of" 6 ["plan","row"] (eG K 2 g9 .S):=(cy P w base 5 Ew .S mV T.D.q19 rY Ci λhr hu=>(aq (aY (i:=2) rY.nd (ao (Ag T) (rm hr) (af (aj 0) (af (aj 1) ai))))
 (aq (c9 (bJ gS dq (a_ bQ cH (by rfl) T.zjq dS (af (bz (aj 2)) ai)) au (bp _)) (ax (uL λ_=>⟨_,_,rfl⟩)) bt)
 (ax (aQ (aj 2))))) :)
def xv (T:Al K mg):Fn P w K mg base "results_of" 3 ["scene"] (eG K 1 fo .O):=(cy P w base 2 zH .O jH T.D.q20 dM xi λhr hu=>(aq (dQ (i:=1) dM.nd jc)
 (aq (cB ô rfl (ow (bz (aj 0))) (e_ rfl (aR (az (i:=2) dM.nd) (aR (az (i:=3) dM.nd) cV)))
 (aq (aY (i:=4) dM.nd (ao (lh T) (rm hr) (af (aj 2) (af (aL aB aE (bz (aj 0)) au (λ_ _=>rfl)) ai))))
 (ax (og (j:=1) hu (aW bu bw (n_ (j:=1) hu (aj 4) au) (aj 3)) (aj 4)))))
 (ox 1 (aq (aY (i:=5) dM.nd (Gg rfl (aj 1) T.zpq))
 (ax (fb (dU (ak jQ) ["scene","weights","row","weight","result","together"] ["result","together","weights"] [L,J 5,J 1] rfl (bC (m1:=.O) (a_ (yt rfl hu) BI (by rfl) T.zeq pS (af (aj 1) ai))) (λYqq=>⟨(az (i:=0) (show (["result","together","weights"]:List Str).Nodup by decide+kernel)),bB,(aM (af (aj 0) (af (ao (k_ T) (rm hr) (af (mM hu (aj 2) (aj 0)) (af (aj 1) ai))) ai)))⟩)))))))) :)
def yI (T:Al K mg):Fn P w K mg base "walked" 7 ["plan","row"] (eG K 2 kO .O):=(cy P w base 6 MM .O vQ T.D.q21 qB Jj λhr hu=>(aq (aY (i:=2) qB.nd (ao (r6 T) (rm hr) (af (aj 0) (af (aj 1) ai))))
 (aq (aY (i:=3) qB.nd (mM hu (bz (aj 2)) bN))
 (ax (fb (a_ (Ek rfl hu) I_ (by rfl) T.zeq pS (af (dU (ak tP) ["plan","row","walk","ended"] ["scene","ended"] [L,J 3] rfl (bC (bz (aj 2))) (λYqq=>⟨(az (i:=0) (show (["scene","ended"]:List Str).Nodup by decide+kernel)),bB,(aM (af (bz (aj 0)) (af (ao (GN T) (rm hr) (af (ao (jU T) (rm hr) (af (aj 0) ai)) (af (aj 1) ai))) (af (ao (xv T) (rm hr) (af (aj 0) ai)) ai))))⟩)) ai)))))) :)
theorem Ah (T:Al K mg):∀n,Fn P w K mg base "with_more" (n+1) ["plan","more"] (eG K 2 (rV n) .S):=by
 intro n
 induction n with
 |zero=>
  refine Df.fnD (N:=["plan","more"]) (ps:=["plan","more"]) (st:=gP) (k:=0) rT .S (iI 0) T.D.q22 oP oQ rfl (by decide) ?_;intro f cS A outer s0 H E hr;have hu:=hr.units;have Az:=xM hr;exact FH
 |succ n F_with_more=>
  refine Df.fnD (N:=["plan","more"]) (ps:=["plan","more"]) (st:=gP) (k:=n+1) rT .S (iI (n+1)) T.D.q22 oP oQ rfl (by decide) ?_;intro f cS A outer s0 H E hr;have hu:=hr.units;have Az:=xM hr;exact (aq (c9 (bJ gS dq (aL aB aE (aj 0) au (λ_ _=>rfl)) bN (bp _)) (ax (aQ (aM (af bN (af (aL aB aE (aj 0) au (λ_ _=>rfl)) (af (aj 1) ai)))))) bt)
 (aq (c9 (bJ gS dq (aL aB aE (aj 0) au (λ_ _=>rfl)) bN (bp _)) (ax (aQ (aM (af bN (af (aL aB aE (aj 0) au (λ_ _=>rfl)) (af (dH bP ed (by rfl) T.zfq eX (af (dU (ak gP) ["plan","more"] ["seen","inner","more"] [L,L,J 1] rfl (bC (aL aB aE (aj 0) au (λ_ _=>rfl))) (λYqq=>⟨(e_ rfl (aR (az (i:=0) (show (["seen","inner","more"]:List Str).Nodup by decide+kernel)) (aR (az (i:=1) (show (["seen","inner","more"]:List Str).Nodup by decide+kernel)) cV))),bB,(aM (af (aj 0) (af (ao F_with_more (rm hr) (af (aj 1) (af (aj 2) ai))) ai)))⟩)) ai)) ai)))))) bt)
 (aq (c9 (bJ gS dq (aL aB aE (aj 0) au (λ_ _=>rfl)) bN (bp _)) (ax (aQ (aj 0))) bt)
 (ax (aQ (aM (af (aL aB aE (aj 0) au (λ_ _=>rfl)) (af (aL aB aE (aj 0) au (λ_ _=>rfl)) (af (ao F_with_more (rm hr) (af (aL aB aE (aj 0) au (λ_ _=>rfl)) (af (aj 1) ai))) ai)))))))))
def l9 (T:Al K mg):Fn P w K mg base "tells_all_places" 3 ["many","plan"] (eG K 2 ib .S):=(cy P w base 2 mW .S g_ T.D.q23 gy l7 λhr hu=>(aq (cB ô rfl (bC (m1:=.O) (ao (jT T) (rm hr) (af (aj 1) ai))) (az (i:=2) gy.nd)
 (ax (c9 (pU (jy (a_ (HM rfl) Pd (by rfl) T.zoq Tt (af (dU (ak eM) ["many","plan","level"] ["part","many"] [L,J 0] rfl (bC (aj 2)) (λYqq=>⟨(az (i:=0) (show (["part","many"]:List Str).Nodup by decide+kernel)),(nW (bJ gS dq (aL aB aE (aj 0) au (λ_ _=>rfl)) bN (bp _))),(mH gS dq (a_ bQ cH (by rfl) T.zjq dS (af (aL aB aE (aj 0) au (λ_ _=>rfl)) ai)) (aj 1) (bp _))⟩)) ai)))) (ax (aQ nO)) bt)))
 (ax (aQ nO))) :)
theorem sQ (T:Al K mg):Fn P w K mg base "is_too_great" 4 ["plan"] (eG K 1 kQ .S):=by
 obtain⟨mE,zcq⟩:=T.zcq;obtain⟨lr,zbq⟩:=T.zbq;exact (cy P w base 3 vR .S kP T.D.q24 sG sH λhr hu=>(ax (aQ (Q4 (ha:=(mH AU uG (ao (Cq T) (rm hr) (af (aj 0) ai)) (uq (i:=60) rfl zcq) (bp _))) (hb:=(Dx (mH AU uG (a_ bQ cH (by rfl) T.zjq dS (af (ao (jT T) (rm hr) (af (aj 0) ai)) ai)) (uq (i:=12) rfl zbq) (bp _))))))) :)
def eU (T:Al K mg):Fn P w K mg base "followed" 22 ["many","plan","more"] (eG K 3 bA .S):=(cy P w base 21 Ex .S vS T.D.q25 rZ Cj λhr hu=>(aq (c9 (pU (jy (ao (l9 T) (rm hr) (af (aj 0) (af (aj 1) ai))))) (ax (uL λ_=>⟨_,_,rfl⟩)) bt)
 (aq (aY (i:=3) rZ.nd (ao ((Ah T) 20) (rm hr) (af (aj 1) (af (aj 2) ai))))
 (aq (c9 (jy (ao (sQ T) (rm hr) (af (aj 3) ai))) (ax (uL λ_=>⟨_,_,rfl⟩)) bt)
 (ax (aQ (aj 3)))))) :)
def dz (T:Al K mg):Fn P w K mg base "pair_at" 1 ["number"] (eG K 1 dI .S):=(cy P w base 0 Jd .S yF T.D.q26 EF EG λhr hu=>(ax (aQ (aM (af (aW de b_ au (aj 0)) (af (aW bu bw (aW de b_ au (aj 0)) au) ai))))) :)
def gQ (T:Al K mg):Fn P w K mg base "turned" 1 ["pair"] (eG K 1 ic .S):=(cy P w base 0 MN .S B5 T.D.q27 Jk Jl λhr hu=>(ax (aQ (aM (af (aL aB aE (aj 0) au (λ_ _=>rfl)) (af (aL aB aE (aj 0) au (λ_ _=>rfl)) ai))))) :)
def eA (T:Al K mg):Fn P w K mg base "whole_end" 1 ["many","pairs"] (eG K 2 dX .S):=(cy P w base 0 B6 .S rW T.D.q28 jS Aa λhr hu=>(aq (dQ (i:=2) jS.nd (eD ai))
 (aq (cB ô rfl (bC (aj 1)) (az (i:=3) jS.nd)
 (ax (nQ (mI (i:=2) ń π ρ tF jE (af (aj 3) ai)))))
 (ox 2 (ax (aQ (aM (af bN (af (dH bP ed (by rfl) T.zfq eX (af (aW bu bw (aj 2) (dU (ak lH) ["many","pairs","places","pair"] ["place","places"] [L,J 2] rfl (gO (af (aj 0) ai) T.zgq) (λYqq=>⟨(az (i:=0) (show (["place","places"]:List Str).Nodup by decide+kernel)),(nW (bJ (II hu) Ul (aj 0) (aj 1) (by rfl))),(aj 0)⟩))) ai)) ai)))))))) :)
def fz (T:Al K mg):Fn P w K mg base "mixed_and_seen" 23 ["many","piles","plans"] (eG K 3 eh .S):=(cy P w base 22 qf .S jg T.D.q29 oR oS λhr hu=>(ax (aQ (aM (af bN (af (ao (Cp T) (rm hr) (af (aj 0) (af (aj 1) ai))) (af (aM (af bN (af (aM (af (aL aB aE (aL aB aE (aj 1) au (λ_ _=>rfl)) au (λ_ _=>rfl)) ai)) (af (aM (af (aM (af (aM (af au ai)) (af (aL aB aE (aj 2) au (λ_ _=>rfl)) ai))) (af (aM (af (aM (af au ai)) (af (aL aB aE (aj 2) au (λ_ _=>rfl)) ai))) ai))) ai)))) ai)))))) :)
def wg (T:Al K mg):Fn P w K mg base "turning" 1 ["one","others"] (eG K 2 qg .S):=(cy P w base 0 Je .S yG T.D.q30 EH EI λhr hu=>(ax (aQ (aM (af (aW bu bw (aM (af (aL aB aE (aj 0) au (λ_ _=>rfl)) ai)) (dH bP ed (by rfl) T.zfq eX (af (dU (ak k7) ["one","others"] ["pair"] [L] rfl (bC (aj 1)) (λYqq=>⟨(az (i:=0) (show (["pair"]:List Str).Nodup by decide+kernel)),bB,(aL aB aE (aj 0) au (λ_ _=>rfl))⟩)) ai))) (af (aW bu bw (aM (af (aL aB aE (aj 0) au (λ_ _=>rfl)) ai)) (dH bP ed (by rfl) T.zfq eX (af (dU (ak k7) ["one","others"] ["pair"] [L] rfl (bC (aj 1)) (λYqq=>⟨(az (i:=0) (show (["pair"]:List Str).Nodup by decide+kernel)),bB,(aL aB aE (aj 0) au (λ_ _=>rfl))⟩)) ai))) ai))))) :)
def Cr (T:Al K mg):Fn P w K mg base "choosing" 1 ["one","low","high"] (eG K 3 vV .S):=(cy P w base 0 Ey .S vT T.D.q31 Ck Cm λhr hu=>(ax (aQ (aM (af (aW bu bw (aM (af (aL aB aE (aj 0) au (λ_ _=>rfl)) ai)) (aj 1)) (af (aW bu bw (aM (af (aL aB aE (aj 0) au (λ_ _=>rfl)) ai)) (aj 2)) ai))))) :)
def iu (T:Al K mg):Fn P w K mg base "negated" 2 ["many","at"] (eG K 2 cF .S):=(cy P w base 1 Jf .S yH T.D.q32 m8 EJ λhr hu=>(aq (aY (i:=2) m8.nd (ao (dz T) (rm hr) (af (aj 1) ai)))
 (aq (dQ (i:=3) m8.nd (tw rfl (af (aj 0) ai) T.zhq T.zgq))
 (aq (jC (i:=3) (aL aB aE (aj 2) au (λ_ _=>rfl)) (aL aB aE (aj 2) au (λ_ _=>rfl)))
 (aq (jC (i:=3) (aL aB aE (aj 2) au (λ_ _=>rfl)) (aL aB aE (aj 2) au (λ_ _=>rfl)))
 (ax (aQ (aM (af bN (af (dH bP ed (by rfl) T.zfq eX (af (gh 3) ai)) ai))))))))) :)
def Ai (T:Al K mg):Fn P w K mg base "oned" 24 ["many","one","other"] (eG K 3 jI .S):=(cy P w base 23 UB .S MO T.D.q33 tQ Qi λhr hu=>(aq (aY (i:=3) tQ.nd (ao (dz T) (rm hr) (af (aj 1) ai)))
 (aq (aY (i:=4) tQ.nd (ao (dz T) (rm hr) (af (aj 2) ai)))
 (aq (aY (i:=5) tQ.nd (aM (af (ao (eA T) (rm hr) (af (aj 0) (af (aM (af (aj 4) (af (aj 3) ai))) ai))) (af (ao (eA T) (rm hr) (af (aj 0) (af (aM (af (ao (gQ T) (rm hr) (af (aj 4) ai)) (af (ao (gQ T) (rm hr) (af (aj 3) ai)) ai))) ai))) ai))))
 (ax (aQ (ao (fz T) (rm hr) (af (aj 0) (af (ao (wg T) (rm hr) (af (aj 3) (af (aM (af (aj 4) ai)) ai))) (af (aj 5) ai))))))))) :)
def M_ (T:Al K mg):Fn P w K mg base "anded" 24 ["many","one","other","free"] (eG K 4 tN .S):=(cy P w base 23 Qb .S GH T.D.q34 k9 MZ λhr hu=>(aq (aY (i:=4) k9.nd (ao (dz T) (rm hr) (af (aj 1) ai)))
 (aq (aY (i:=5) k9.nd (ao (dz T) (rm hr) (af (aj 3) ai)))
 (aq (aY (i:=6) k9.nd (ao (dz T) (rm hr) (af (aj 2) ai)))
 (aq (aY (i:=7) k9.nd (aM (af (ao (eA T) (rm hr) (af (aj 0) (af (aM (af (aj 5) (af (aj 4) (af (aj 6) ai)))) ai))) (af (ao (eA T) (rm hr) (af (aj 0) (af (aM (af (aj 6) (af (ao (gQ T) (rm hr) (af (aj 4) ai)) (af (aj 5) ai)))) ai))) ai))))
 (ax (aQ (ao (fz T) (rm hr) (af (aj 0) (af (ao (Cr T) (rm hr) (af (aj 4) (af (aj 5) (af (aj 6) ai)))) (af (aj 7) ai)))))))))) :)
def Jp (T:Al K mg):Fn P w K mg base "copied" 24 ["many","one","first","second"] (eG K 4 kR .S):=(cy P w base 23 MP .S B7 T.D.q35 lL Jm λhr hu=>(aq (aY (i:=4) lL.nd (ao (dz T) (rm hr) (af (aj 1) ai)))
 (aq (aY (i:=5) lL.nd (aM (af (ao (dz T) (rm hr) (af (aj 2) ai)) (af (ao (dz T) (rm hr) (af (aj 3) ai)) ai))))
 (aq (aY (i:=6) lL.nd (aM (af (ao (eA T) (rm hr) (af (aj 0) (af (aW bu bw (aj 5) (aM (af (aj 4) ai))) ai))) (af (ao (eA T) (rm hr) (af (aj 0) (af (aM (af (ao (gQ T) (rm hr) (af (aL aB aE (aj 5) au (λ_ _=>rfl)) ai)) (af (ao (gQ T) (rm hr) (af (aL aB aE (aj 5) au (λ_ _=>rfl)) ai)) (af (ao (gQ T) (rm hr) (af (aj 4) ai)) ai)))) ai))) ai))))
 (ax (aQ (ao (fz T) (rm hr) (af (aj 0) (af (ao (wg T) (rm hr) (af (aj 4) (af (aj 5) ai))) (af (aj 6) ai))))))))) :)
def ER (T:Al K mg):Fn P w K mg base "view_of" 7 ["plan","row"] (eG K 2 dJ .S):=(cy P w base 6 Jg .S qh T.D.q36 ir EK λhr hu=>(aq (aY (i:=2) ir.nd (ao (r6 T) (rm hr) (af (aj 0) (af (aj 1) ai))))
 (aq (aY (i:=3) ir.nd (mM hu (bz (aj 2)) bN))
 (aq (dQ (i:=4) ir.nd jc)
 (aq (cB ô rfl (bC (bz (aj 2))) (az (i:=5) ir.nd)
 (ax (og (j:=4) hu (ao (GN T) (rm hr) (af (ao (jU T) (rm hr) (af (aj 5) ai)) (af (aj 3) ai))) (bz (aj 5)))))
 (ox 4 (ax (aQ (tH (M8 T.c_View) (rm hr) (af (mM hu (bz (aj 2)) bN) (af (aj 4) ai)))))))))) :)
def xw (T:Al K mg):Fn P w K mg base "told_apart" 1 ["one","other"] (eG K 2 ei .S):=(cy P w base 0 zJ .S jJ T.D.q37 xj xk λhr hu=>(ax (aQ (Q4 (ha:=(mH (Dn hu) (pX (f:=not)) (bz (aj 0)) (bz (aj 1)) (bp _))) (hb:=(Dx (mH (P9 hu) MK (bz (aj 0)) (bz (aj 1)) (bp _))))))) :)
def sR (T:Al K mg):Fn P w K mg base "first_unlike" 1 ["one","other"] (eG K 2 kS .S):=Ud (P:=P) (w:=w) (base:=base) (n:=2) T.D.q38 sI sJ
def Aj (T:Al K mg):Fn P w K mg base "quiet_but" 8 ["plan","rows","marks"] (eG K 3 iJ .S):=(cy P w base 7 B8 .S kW T.D.q39 gL Ab λhr hu=>(aq (lB (i:=3) (ak lJ) ["plan","rows","marks","views","one","other"] ["row","plan"] [L,J 0] gL.nd rfl (bC (aj 1)) (λYqq=>⟨(az (i:=0) (show (["row","plan"]:List Str).Nodup by decide+kernel)),bB,(ao (ER T) (rm hr) (af (aj 1) (af (aj 0) ai)))⟩))
 (aq (cB ô rfl (gO (af (a_ bQ cH (by rfl) T.zjq dS (af (aj 3) ai)) ai) T.zgq) (az (i:=4) gL.nd)
 (ax (cB ô rfl (HY (af (aW bu bw (aj 4) au) (af (a_ bQ cH (by rfl) T.zjq dS (af (aj 3) ai)) ai)) T.zgq) (az (i:=5) gL.nd)
 (ax (c9 (DW.dt (Tz (bJ gS dq (aL aB aE (aj 2) (aj 4) (λ_ _=>rfl)) (aL aB aE (aj 2) (aj 5) (λ_ _=>rfl)) (bp _)) (O1 (jy (ao (xw T) (rm hr) (af (aL aB aE (aj 3) (aj 4) (λ_ _=>rfl)) (af (aL aB aE (aj 3) (aj 5) (λ_ _=>rfl)) ai))))))) (ax (aQ (aM (VD (bg bN (bg (aj 4) (bg (aj 5) (bg (ao (sR T) (rm hr) (af (aL aB aE (aj 3) (aj 4) (λ_ _=>rfl)) (af (aL aB aE (aj 3) (aj 5) (λ_ _=>rfl)) ai))) lD)))))))) bt)))))
 (ax (aQ (aM (af bN ai)))))) :)
def Na (T:Al K mg):Fn P w K mg base "quiet" 9 ["plan","rows"] (eG K 2 tO .S):=(cy P w base 8 Qc .S zK T.D.q40 M5 M6 λhr hu=>(ax (aQ (ao (Aj T) (rm hr) (af (aj 0) (af (aj 1) (af (aW Gf BJ (eD (af au ai)) (a_ bQ cH (by rfl) T.zjq dS (af (aj 1) ai))) ai)))))) :)
def wm (T:Al K mg):Fn P w K mg base "first_wrong" 8 ["plan","row","due"] (eG K 3 eJ .S):=(cy P w base 7 xh .S iW T.D.q41 cZ wd λhr hu=>(aq (cB ô rfl (bC (m1:=.O) (ao (yI T) (rm hr) (af (aj 0) (af (aj 1) ai)))) (e_ rfl (aR (az (i:=3) cZ.nd) (aR (az (i:=4) cZ.nd) (aR (az (i:=5) cZ.nd) cV))))
 (ax (cB ô rfl (bC (aj 5)) (e_ rfl (aR (az (i:=6) cZ.nd) (aR (az (i:=7) cZ.nd) cV)))
 (ax (c9 (bJ (Dn hu) (pX (f:=not)) (aj 6) (aj 2) (bp _)) (ax (aQ (aM (af (aj 3) (af (aj 6) ai))))) bt)))))
 (ax (aQ Kt))) :)
def Jq (T:Al K mg):Fn P w K mg base "judged" 9 ["plan","deals"] (eG K 2 kY .S):=(cy P w base 8 MQ .S vW T.D.q42 lM Jn λhr hu=>(aq (cB ô rfl (PU (af (aj 1) ai) T.zdq) (e_ rfl (aR (az (i:=2) lM.nd) (aR (az (i:=3) lM.nd) cV)))
 (aq (aY (i:=4) lM.nd (ao (wm T) (rm hr) (af (aj 0) (af (aL aB aE (aj 3) au (λ_ _=>rfl)) (af (aL aB aE (aj 3) au (λ_ _=>rfl)) ai)))))
 (ax (c9 (bJ OA KJ (aj 4) Kt (bp _)) (ax (aQ (aM (VD (bg bN (bg (aj 2) (bg (aL aB aE (aj 4) au (λ_ _=>rfl)) (bg (aL aB aE (aj 4) au (λ_ _=>rfl)) lD)))))))) bt))))
 (ax (aQ (aM (af bN ai))))) :)
def ES (T:Al K mg):Fn P w K mg base "chances" 8 ["plan","row"] (eG K 2 jh .O):=(cy P w base 7 Jh .O qj T.D.q43 eR EM λhr hu=>(aq (dQ (i:=2) eR.nd jc)
 (aq (cB ô rfl (bC (m1:=.O) (ao (yI T) (rm hr) (af (aj 0) (af (aj 1) ai)))) (e_ rfl (aR (az (i:=3) eR.nd) (aR (az (i:=4) eR.nd) (aR (az (i:=5) eR.nd) cV))))
 (ax (cB ô rfl (bC (aj 5)) (e_ rfl (aR (az (i:=6) eR.nd) (aR (az (i:=7) eR.nd) cV)))
 (ax (og (j:=2) hu (ao (GK T) (rm hr) (af (n_ (j:=2) hu (aj 6) (aM (af au (af au ai)))) (af (ao (M9 T) (rm hr) (af (aj 4) (af (aj 7) ai))) ai))) (aj 6))))))
 (ox 2 (ax (fb (dU (ak oN) ["plan","row","gathered","trace","chance","results","result","part"] ["result","gathered"] [L,J 2] rfl (bC (m1:=.O) (a_ (yt rfl hu) BI (by rfl) T.zeq pS (af (aj 2) ai))) (λYqq=>⟨(az (i:=0) (show (["result","gathered"]:List Str).Nodup by decide+kernel)),bB,(aM (af (aj 0) (af (mM hu (aj 1) (aj 0)) ai)))⟩))))))) :)
def sS (T:Al K mg):Fn P w K mg base "_law_cell_at" 1 ["script","k"] (eG K 2 dY .S):=(cy P w base 0 vX .S fq T.D.q44 sL sM λhr hu=>(aq (c9 (bJ QU KP (aj 1) (a_ bQ cH (by rfl) T.zjq dS (af (aj 0) ai)) (bp _)) (ax (aQ (aL aB aE (aj 0) (aj 1) (λ_ _=>rfl)))) bt)
 (ax (aQ au))) :)
def xx (T:Al K mg):Fn P w K mg base "_law_state" 2 ["script","k"] (eG K 2 ej .O):=(cy P w base 1 zL .O gH T.D.q45 mD xn λhr hu=>(aq (aY (i:=2) mD.nd (ao (sS T) (rm hr) (af (aj 0) (af (aj 1) ai))))
 (aq (c9 (bJ Wi T2 (aj 2) (aW JS FA au au) (bp _)) (ax (fb (eD (af (aW C6 ze (aj 2) (aW JS FA au au)) (af nO ai))))) bt)
 (ax (fb (eD (af (aW ki iE (aj 2) au) (af nO ai))))))) :)
def jV (T:Al K mg):Fn P w K mg base "_law_take" 1 ["state","many"] (VA K 2 bI):=(Ua P w base 0 B9 iK T.D.q46 gN Ac λhr hu=>(aq (c9 (jy (aL aB aE (gh 0) au (λ_ _=>rfl))) (aq (aY (i:=2) gN.nd (aW ki iE (aL aB aE (gh 0) au (λ_ _=>rfl)) (aj 1)))
 (aq (jC (i:=0) (aW i9 kz (aL aB aE (gh 0) au (λ_ _=>rfl)) (aj 1)) au)
 (ax (aQ (aj 2))))) bt)
 (aq (jC (i:=0) (aW ki iE (aW bu bw (aW de b_ (aL aB aE (gh 0) au (λ_ _=>rfl)) au) au) au) au)
 (aq (aY (i:=3) gN.nd (aW ki iE (aW bu bw (aW bu bw (aW de b_ (aL aB aE (gh 0) au (λ_ _=>rfl)) (aL aB aE (gh 0) au (λ_ _=>rfl))) (aW de b_ au (aL aB aE (gh 0) au (λ_ _=>rfl)))) au) au))
 (aq (aY (i:=3) gN.nd (aW ki iE (aW bu bw (aW de b_ (aj 3) (aj 3)) (aW de b_ au (aj 3))) au))
 (ax (aQ (aW ki iE (aW i9 kz (aj 3) au) (aj 1)))))))) :)
def oU (T:Al K mg):Fn P w K mg base "_law_pair" 1 ["bit"] (eG K 1 gd .S):=(cy P w base 0 B_ .S rX T.D.q47 Ad Ae λhr hu=>(ax (aQ (aM (af (aj 0) (af (aW C6 ze au (aj 0)) ai))))) :)
def ng (T:Al K mg):Fn P w K mg base "_law_with_pairs" 2 ["state","many","numbers","bits"] (VA K 4 cJ):=(Ua P w base 1 cI fu T.D.q48 dw m9 λhr hu=>(aq (DC (i:=4) (ak fX) ["state","many","numbers","bits","row","number","bit"] ["place","state"] [L,J 0] dw.nd rfl (gO (af (aj 1) ai) T.zgq) (λYqq=>⟨(az (i:=0) (show (["place","state"]:List Str).Nodup by decide+kernel)),bB,(ku (i:=1) (jV T) (rm hr) (af au ai))⟩))
 (aq (cB ô rfl (zk (af (aj 2) (af (aj 3) ai)) T.znq) (e_ rfl (aR (az (i:=5) dw.nd) (aR (az (i:=6) dw.nd) cV)))
 (aq (jC (i:=4) (aj 6) (aW de b_ au (aj 5)))
 (ax (jC (i:=4) (aW C6 ze au (aj 6)) (aW bu bw (aW de b_ au (aj 5)) au)))))
 (ax (aQ (dH bP ed (by rfl) T.zfq eX (af (gh 4) ai)))))) :)
theorem sT (T:Al K mg):Fn P w K mg base "_law_numbers" 2 ["state","many","count"] (VA K 3 dZ):=(Ua P w base 1 ip iq T.D.q49 j6 sN λhr hu=>(aq (dQ (i:=3) j6.nd (tw rfl (af (aW i9 kz (aj 1) au) ai) T.zhq T.zgq))
 (ax (aQ (TV (ak iM) ["state","many","count","left"] ["k","left","state"] [L,J 3,J 0] rfl (gO (af (aj 2) ai) T.zgq) (λYqq=>⟨(az (i:=0) (show (["k","left","state"]:List Str).Nodup by decide+kernel)),bB,(mI (i:=1) ń PySem.F.slot_list_pop PySem.F.type_list_pop J7 Ih (af (ku (i:=2) (jV T) (rm hr) (af (a_ bQ cH (by rfl) T.zjq dS (af (gh 1) ai)) ai)) ai))⟩))))) :)
def fS (T:Al K mg):Fn P w K mg base "_law_all_bits" 1 ["count"] (eG K 1 bZ .S):=(cy P w base 0 sE .S j4 T.D.q50 ez qC λhr hu=>(aq (aY (i:=1) ez.nd (eD (af (aM ai) ai)))
 (aq (cB ô rfl (gO (af (aj 0) ai) T.zgq) (az (i:=2) ez.nd)
 (ax (aY (i:=1) ez.nd (aW bu bw (dU (ak gf) ["count","found","k"] ["row"] [L] rfl (bC (aj 1)) (λYqq=>⟨(az (i:=0) (show (["row"]:List Str).Nodup by decide+kernel)),bB,(aW bu bw (aj 0) (aM (af au ai)))⟩)) (dU (ak gf) ["count","found","k"] ["row"] [L] rfl (bC (aj 1)) (λYqq=>⟨(az (i:=0) (show (["row"]:List Str).Nodup by decide+kernel)),bB,(aW bu bw (aj 0) (aM (af au ai)))⟩))))))
 (ax (aQ (aj 1))))) :)
def fY (T:Al K mg):Fn P w K mg base "_law_ended" 23 ["many","plan"] (eG K 2 bF .S):=(cy P w base 22 zM .S oI T.D.q51 xo xp λhr hu=>(ax (aQ (ao (eU T) (rm hr) (af (aj 0) (af (aj 1) (af (aM (af bN (af (aM (af au (af au ai))) ai))) ai)))))) :)
def fZ (T:Al K mg):Fn P w K mg base "_law_right" 10 ["plan","rows","dues"] (eG K 3 cf .S):=(cy P w base 9 zN .S jN T.D.q52 xq xt λhr hu=>(ax (aQ (TC (ha:=(mH (Dm hu) (pX (f:=id)) (ao (Jq T) (rm hr) (af (aj 0) (af (IW rfl (af (aj 1) (af (aj 2) ai)) T.zhq T.znq) ai))) (aM (af bN ai)) (bp _))) (hb:=(Dx (mH (Dm hu) (pX (f:=id)) (ao (Na T) (rm hr) (af (aj 0) (af (aj 1) ai))) (aM (af bN ai)) (bp _))))))) :)
def Cs (T:Al K mg):Fn P w K mg base "_law_two" 25 ["many","rows","numbers"] (eG K 3 jO .S):=(cy P w base 24 Ez .S mY T.D.q53 cK Co λhr hu=>(aq (KC (aj 2) (Kz rfl (aR (az (i:=3) cK.nd) (aR (az (i:=4) cK.nd) (aR (az (i:=5) cK.nd) cV)))))
 (aq (aY (i:=6) cK.nd (ao (fS T) (rm hr) (af au ai)))
 (aq (aY (i:=7) cK.nd (ao (M_ T) (rm hr) (VD (bg (aj 0) (bg (aj 3) (bg (aj 4) (bg (aj 5) lD)))))))
 (aq (aY (i:=7) cK.nd (ao (eU T) (rm hr) (af (aj 0) (af (ao (iu T) (rm hr) (af (aj 0) (af (aj 3) ai))) (af (ao (eU T) (rm hr) (af (aj 0) (af (ao (iu T) (rm hr) (af (aj 0) (af (aj 4) ai))) (af (aj 7) ai)))) ai)))))
 (aq (aY (i:=7) cK.nd (ao (fY T) (rm hr) (af (aj 0) (af (ao (eU T) (rm hr) (af (aj 0) (af (aj 7) (af (ao (iu T) (rm hr) (af (aj 0) (af au ai))) ai)))) ai))))
 (aq (c9 (pU (jy (ao (fZ T) (rm hr) (af (aj 7) (af (aj 1) (af (dU (ak oO) ["many","rows","numbers","one","other","free","bits","either","dues"] ["some"] [L] rfl (bC (aj 6)) (λYqq=>⟨(az (i:=0) (show (["some"]:List Str).Nodup by decide+kernel)),bB,(ao (oU T) (rm hr) (af (a_ (Jb rfl) MF (by rfl) T.zlq Km (af (aj 0) ai)) ai))⟩)) ai)))))) (ax (aQ nO)) bt)
 (aq (lB (i:=8) (ak oO) ["many","rows","numbers","one","other","free","bits","either","dues"] ["some"] [L] cK.nd rfl (bC (aj 6)) (λYqq=>⟨(az (i:=0) (show (["some"]:List Str).Nodup by decide+kernel)),bB,(ao (oU T) (rm hr) (af (aW ki iE (aW bu bw (aL aB aE (aj 0) au (λ_ _=>rfl)) (aL aB aE (aj 0) au (λ_ _=>rfl))) au) ai))⟩))
 (aq (c9 (pU (jy (ao (fZ T) (rm hr) (af (ao (fY T) (rm hr) (af (aj 0) (af (ao (Ai T) (rm hr) (af (aj 0) (af (aj 3) (af (aj 4) ai)))) ai))) (af (aj 1) (af (aj 8) ai)))))) (ax (aQ nO)) bt)
 (ax (aQ (ao (fZ T) (rm hr) (af (ao (fY T) (rm hr) (af (aj 0) (af (ao (Ai T) (rm hr) (af (aj 0) (af (aj 4) (af (aj 3) ai)))) ai))) (af (aj 1) (af (aj 8) ai)))))))))))))) :)
def xy (T:Al K mg):Fn P w K mg base "_law_twice" 25 ["many","rows","numbers"] (eG K 3 gI .S):=(cy P w base 24 zO .S jP T.D.q54 cu xu λhr hu=>(aq (KC (aj 2) (Kz rfl (aR (az (i:=3) cu.nd) (aR (az (i:=4) cu.nd) (aR (az (i:=5) cu.nd) cV)))))
 (aq (aY (i:=6) cu.nd (ao (eU T) (rm hr) (af (aj 0) (af (ao (iu T) (rm hr) (af (aj 0) (af (aj 3) ai))) (af (ao (iu T) (rm hr) (af (aj 0) (af (aj 3) ai))) ai)))))
 (aq (cB ô rfl (bC (aj 1)) (az (i:=7) cu.nd)
 (ax (c9 (bJ (Dn hu) (pX (f:=not)) (ao (ES T) (rm hr) (af (aj 6) (af (aj 7) ai))) (eD (af (aM (af (aj 7) (af (aM (af au (af au ai))) ai))) ai)) (bp _)) (ax (aQ nO)) bt)))
 (aq (aY (i:=8) cu.nd (ao (eU T) (rm hr) (af (aj 0) (af (ao (Jp T) (rm hr) (VD (bg (aj 0) (bg (aj 3) (bg (aj 4) (bg (aj 5) lD)))))) (af (ao (Ai T) (rm hr) (af (aj 0) (af au (af au ai)))) ai)))))
 (aq (lB (i:=9) (ak lK) ["many","rows","numbers","one","other","free","turned_twice","row","plan","some"] ["row","bits"] [L,L] cu.nd rfl (zk (af (aj 1) (af (ao (fS T) (rm hr) (af au ai)) ai)) T.znq) (λYqq=>⟨(e_ rfl (aR (az (i:=0) (show (["row","bits"]:List Str).Nodup by decide+kernel)) (aR (az (i:=1) (show (["row","bits"]:List Str).Nodup by decide+kernel)) cV))),(nW (bJ (Dm hu) (pX (f:=id)) (aL aB aE (aj 1) au (λ_ _=>rfl)) au (bp _))),(aj 0)⟩))
 (ax (aQ (ao (fZ T) (rm hr) (af (ao (fY T) (rm hr) (af (aj 0) (af (aj 8) ai))) (af (aj 9) (af (aW Gf BJ (eD (af (aM (af au (af au ai))) ai)) (a_ bQ cH (by rfl) T.zjq dS (af (aj 9) ai))) ai))))))))))) :)
def UC (T:Al K mg)(FL:HF K "law" "law" zV f fd)(hp:∀ns:List Int,ns.length<=63->Ca [.scr (ns.map .int)]=.ok (.bl Z)):gE P w K mg base pD 26 f fd ["script"] (Bh K):=by
 refine TY (f:=Ca) ?_ hp;refine HF.okD (N:=["script","k","state","many","numbers","rows"]) (ps:=["script"]) (st:=zV) (k:=25) GI .S MR FL qD rfl (by decide) ?_;intro f cS A outer s0 H E hr;have hu:=hr.units;have Az:=xM hr;exact (aq (cB ô rfl (gO (af (a_ (Hw rfl) KN (by rfl) T.zlq Km (af au (af (a_ (Hx rfl) KO (by rfl) T.zkq Tq (af (a_ bQ cH (by rfl) T.zjq dS (af (aj 0) ai)) (af au ai))) ai))) ai) T.zgq) (az (i:=1) qD.nd)
 (aq (dQ (i:=2) qD.nd (ao (xx T) (rm hr) (af (aj 0) (af (aj 1) ai))))
 (aq (aY (i:=3) qD.nd (aW bu bw au (aW de b_ au (ku (i:=2) (jV T) (rm hr) (af au ai)))))
 (aq (aY (i:=4) qD.nd (ku (i:=2) (sT T) (rm hr) (af (aj 3) (af au ai))))
 (aq (H9 (i:=5) (ak zV) ["script","k","state","many","numbers","rows"] ["bits","state","many","numbers"] [L,J 2,J 3,J 4] qD.nd rfl (bC (m1:=.S) (ao (fS T) (rm hr) (af au ai))) (λYqq=>⟨(az (i:=0) (show (["bits","state","many","numbers"]:List Str).Nodup by decide+kernel)),bB,(ku (i:=1) (ng T) (rm hr) (af (aj 2) (af (aj 3) (af (aW bu bw (aj 0) (aM (af au ai))) ai))))⟩))
 (ax (c9 (DW.dt (Q2 (pU (jy (ao (Cs T) (rm hr) (af (aj 3) (af (aj 5) (af (aj 4) ai)))))) (Kv (pU (jy (ao (xy T) (rm hr) (af (aj 3) (af (aj 5) (af (aj 4) ai))))))))) (ax (aQ nO)) bt)))))))
 (ax (aQ nO)))
end
inductive DfK (K:È)(x:Str)(st:Ë):Prop
 |mk {f:I} {od an:Option I} {sl:Array (Option d)} {oc kV dc pm cd ct:d}:Ď K ê x=J (J (.ref f))->K.lookup f=J ⟨oc,od,.func (č x x (cT st) (bf st) (ak st) .none kV dc pm an cd ct),sl⟩->Ż K cd x=Z->Ń K (.ref f)=Z->DfK K x st
theorem a9 (q:DfK K x st)(X:K.In h)(G:h.Ns ê mg):Df K mg x st:=by
 obtain⟨a,l,c,k⟩:=q;exact⟨_,_,Ū X G a,Di (st:=st) l c k⟩
theorem all_mk (X:K.In h)(G:h.Ns ê mg)(hfa:mg "law"=J (.ref fa))(Q:Ds (DfK K))(zmq:Ď K ê "abs"=J L)(zoq:Ď K ê "all"=J L)(ziq:Ď K ê "dict"=J L)(zdq:Ď K ê "enumerate"=J L)(zjq:Ď K ê "len"=J L)(zhq:Ď K ê "list"=J L)(zlq:Ď K ê "max"=J L)(zkq:Ď K ê "min"=J L)(zgq:Ď K ê "range"=J L)(zeq:Ď K ê "sorted"=J L)(zpq:Ď K ê "sum"=J L)(zfq:Ď K ê "tuple"=J L)(znq:Ď K ê "zip"=J L){gA:Tok}(zaq:Ď K ê "MOST_PILES_MIXED"=J (J (.int 4 gA))){mE:Tok}(zcq:Ď K ê "MOST_PLANS"=J (J (.int 60 mE))){lr:Tok}(zbq:Ď K ê "MOST_WITHIN"=J (J (.int 12 lr)))(AE:Xn K "Scene" "Scene.__init__" zW ["plan","trace","bottom","weights"])(Fd:Xn K "View" "View.__init__" GJ ["again","traces"])(AF:Xn K "Round" "Round.__init__" m_ ["ends","mean"])(hp:∀ns:List Int,ns.length<=63->Ca [.scr (ns.map .int)]=.ok (.bl Z))
  : ∃fd:ħ,(∀(s:À) (v:d),BindsTo s fd ⟨[v],[]⟩ [("script",v)])/\∀base:É,K.In base->base.Ns ê mg->gE PySem.Challenge.pw_hushcards_k57_whole_reckoning_with_pairs w K mg base pD 26 fa fd ["script"] (Bh K):=by
 obtain @⟨f_,od_,an55,sl_,oc_,kV55,dc55,pm55,cd55,ct55,a55,l55,c55,k55⟩:=Q.q55;have e:=hfa.symm.trans (Ū X G a55);cases e;have T:Txt mg:=⟨ģ X G zmq,ģ X G zoq,ģ X G ziq,ģ X G zdq,ģ X G zjq,ģ X G zhq,ģ X G zlq,ģ X G zkq,ģ X G zgq,ģ X G zeq,ģ X G zpq,ģ X G zfq,ģ X G znq,⟨_,Ū X G zaq⟩,⟨_,Ū X G zcq⟩,⟨_,Ū X G zbq⟩⟩;have FL:=Di (st:=zV) l55 c55 k55;refine⟨č "law" "law" (cT zV) (bf zV) (ak zV) .none kV55 dc55 pm55 an55 cd55 ct55,λs v=>.of_eq rfl,λbase _ _=>?_⟩;exact UC (P:=PySem.Challenge.pw_hushcards_k57_whole_reckoning_with_pairs) (w:=w) (base:=base) ⟨T,⟨a9 Q.q0 X G,a9 Q.q1 X G,a9 Q.q2 X G,a9 Q.q3 X G,a9 Q.q4 X G,a9 Q.q5 X G,a9 Q.q6 X G,a9 Q.q7 X G,a9 Q.q8 X G,a9 Q.q9 X G,a9 Q.q10 X G,a9 Q.q11 X G,a9 Q.q12 X G,a9 Q.q13 X G,a9 Q.q14 X G,a9 Q.q15 X G,a9 Q.q16 X G,a9 Q.q17 X G,a9 Q.q18 X G,a9 Q.q19 X G,a9 Q.q20 X G,a9 Q.q21 X G,a9 Q.q22 X G,a9 Q.q23 X G,a9 Q.q24 X G,a9 Q.q25 X G,a9 Q.q26 X G,a9 Q.q27 X G,a9 Q.q28 X G,a9 Q.q29 X G,a9 Q.q30 X G,a9 Q.q31 X G,a9 Q.q32 X G,a9 Q.q33 X G,a9 Q.q34 X G,a9 Q.q35 X G,a9 Q.q36 X G,a9 Q.q37 X G,a9 Q.q38 X G,a9 Q.q39 X G,a9 Q.q40 X G,a9 Q.q41 X G,a9 Q.q42 X G,a9 Q.q43 X G,a9 Q.q44 X G,a9 Q.q45 X G,a9 Q.q46 X G,a9 Q.q47 X G,a9 Q.q48 X G,a9 Q.q49 X G,a9 Q.q50 X G,a9 Q.q51 X G,a9 Q.q52 X G,a9 Q.q53 X G,a9 Q.q54 X G,a9 Q.q55 X G⟩,LS AF X G,LS AE X G,LS Fd X G⟩ FL hp
end Hc
namespace Hc
open L2
end Hc
namespace Hc
open L2
def Sg {f:Bool->Bool}{u w:U}:je f u w=(Um u w).bind λb=>.ok (.bl (f b)):=nr rfl
def tR {a b:Int}:Um (.int a) (.int b)=.ok (a==b):=nr rfl
def GP {a b:Str}:Um (.str a) (.str b)=.ok (a==b):=nr rfl
def d9:=zyy @Ç.{0,0}<|zyy @ϔ.{0,0}<|zyy @Ù.{0}<|zyy @ł.{0}<|zyy @ϕ.{0}<|zyy @Υ.{0}<|zyy @afh.{0}<|zyy @List.replicate_zero.{0}<|zyy @List.getElem?_cons_zero.{0}<|zyy @Ρ.{0}<|zyy @List.set_cons_zero.{0}<|zyy @List.set_cons_succ.{0}<|zyy @Option.getD_some.{0}<|zyy @if_true.{1}<|zyy @if_false.{1}<|zyy @ϳ<|zyy @Rk<|zyy @Bool.not_true<|zyy @Bool.not_false<|zyy @Sg<|zyy @tR @GP
end Hc
namespace Hc.Cn
open L2 Hc.Ts
noncomputable abbrev Rw:=List Int
abbrev Dc:=List (Rw×Int)
noncomputable def l_ (d:Dc)(k:Rw):Int:=((d.find? λp=>decide (p.1=k)).map (·.2)).getD 0
noncomputable def j_ (d:Dc)(k:Rw)(v:Int):Dc:=if k∈d.map (·.1) then d.map (λp=>if p.1=k then (p.1,v) else p) else d++[(k,v)]
def nh (d:Dc)(k:Rw)(w:Int):Dc:=j_ d k (l_ d k+w)
noncomputable def bh (d:Dc)(f:Rw->Int):Int:=(d.map λp=>p.2*f p.1).sum
def Nd (d:Dc):Prop:=(d.map (·.1)).Nodup
def Ps (d:Dc):Prop:=∀p∈d,1<=p.2
def jk (p:Rw×Int)(d:Dc)(k:Rw):l_ (p::d) k=if p.1=k then p.2 else l_ d k:=by
 unfold l_;grind
theorem oV:∀{d:Dc} {k:Rw},k∉d.map (·.1)->l_ d k=0
 | [],_,_=>rfl
 |p::d,k,h=>by
  rw[Ç,Ø,not_or] at h;rw[jk,hZ (λe=>h.1 e.symm),oV h.2]
theorem Jr {d:Dc}{k:Rw}(h:k∈d.map (·.1)):(k,l_ d k)∈d:=by
 induction d with
 |nil=>cases h
 |cons q d ih=>
  rw[jk];grind
theorem oW (d:Dc)(k:Rw)(v:Int):(j_ d k v).map (·.1)=if k∈d.map (·.1) then d.map (·.1) else d.map (·.1)++[k]:=by
 unfold j_;split
 ·rw[ñ];apply ö;intro p _;show (if p.1=k then (p.1,v) else p).1=p.1;split<;>rfl
 ·rw[ð];rfl
theorem UD {d:Dc}(k:Rw)(v:Int)(h:Nd d):Nd (j_ d k v):=by
 grind[Nd,oW,Ą]
theorem UE {d:Dc}{k:Rw}{v:Int}(h:Ps d)(hv:1<=v):Ps (j_ d k v):=by
 unfold j_;intro p hp;split at hp
 ·obtain⟨q,hq,rfl⟩:=Ú.mp hp;split
  ·exact hv
  ·exact h q hq
 ·rcases ı.mp hp with hp|hp
  ·exact h p hp
  ·rw[Ą] at hp;subst hp;exact hv
theorem r9 {d:Dc}(h:Ps d)(k:Rw):0<=l_ d k:=by
 by_cases c:k∈d.map (·.1)
 ·have:=h _ (Jr c);lia
 ·rw[oV c];exact Ľ _
def sum_append (a b:List Int):(a++b).sum=a.sum+b.sum:=List.sum_append
theorem Ct:∀{d:Dc} {k:Rw} {v:Int} (f:Rw->Int),Nd d->k∈d.map (·.1)->bh (d.map λp=>if p.1=k then (p.1,v) else p) f=bh d f+(v-l_ d k)*f k
 |q::d,k,v,f,n,h=>by
  unfold Nd at n;rw[Ç,ø] at n;unfold bh;rw[Ç,Ç,Ç,Û,Û,jk];by_cases c:q.1=k
  ·rw[h_ c,h_ c];have e:(d.map λp=>if p.1=k then (p.1,v) else p)=d:=by
    conv=>rhs;rw[<-List.map_id d]
    apply ö;grind
   rw[e,c];show v*f k+_=q.2*f k+_+(v-q.2)*f k;rw[Int.sub_mul];lia
  ·rw[hZ c,hZ c];have h':k∈d.map (·.1):=by
    grind
   have:=Ct (v:=v) f n.2 h';unfold bh at this;lia
theorem Nf {d:Dc}(k:Rw)(w:Int)(f:Rw->Int)(n:Nd d):bh (nh d k w) f=bh d f+w*f k:=by
 unfold nh j_;split
 ·rename_i c;rw[Ct f n c];congr 2;lia
 ·rename_i c;unfold bh;rw[ð,oV c];simp
def br (d:Dc)(ws:List (Rw×Int)):Dc:=ws.foldl (λd p=>nh d p.1 p.2) d
theorem lN:∀(ws:List (Rw×Int)) {d:Dc},Nd d->Ps d->(∀p∈ws,1<=p.2)->Nd (br d ws)/\Ps (br d ws)/\∀f,bh (br d ws) f=bh d f+(ws.map λp=>p.2*f p.1).sum
 | [],d,n,p,_=>⟨n,p,λf=>by show bh d f=_;simp⟩
 |q::ws,d,n,p,h=>by
  have n1:Nd (nh d q.1 q.2):=UD _ _ n;have p1:Ps (nh d q.1 q.2):=UE p (by have:=r9 p q.1;have:=h q Ï;lia);obtain⟨a,b,c⟩:=lN ws n1 p1 λx hx=>h x (Ö _ hx);refine⟨a,b,λf=>?_⟩;show bh (br _ ws) f=_;rw[c f,Nf _ _ _ n,Ç,Û];lia
noncomputable def bT (d:Dc):Int:=(d.map (·.2)).sum
def gg (l:List Rw):Dc:=br [] (l.map λx=>(x,1))
theorem qG:Nd []/\Ps []:=⟨Ģ,λp hp=>by cases hp⟩
theorem Ak (l:List Rw):Nd (gg l)/\Ps (gg l)/\∀f,bh (gg l) f=(l.map f).sum:=by
 obtain⟨a,b,c⟩:=lN (l.map λx=>(x,(1:Int))) qG.1 qG.2 λp hp=>by
  grind
 refine⟨a,b,λf=>?_⟩;have:=c f;rw[ñ] at this;unfold gg;rw[this];show (0:Int)+_=_;simp[Int.zero_add,ö]
theorem GQ (l:List Rw):bT (gg l)=l.length:=by
 obtain⟨n,p,s⟩:=Ak l;have:=s λ_=>1;unfold bh at this;unfold bT;have e:((gg l).map λp=>p.2*1)=(gg l).map (·.2):=by
  lia
 rw[e] at this;rw[this];clear this e s p n
 induction l with
 |nil=>rfl
 |cons x l ih=>rw[Ç,Û,ih,Ù];lia
theorem UG {l:List Int}(h:∀x∈l,0<=x):∀x∈l,x<=l.sum:=by
 induction l with
 |nil=>simp
 |cons y l ih=>
  intro x hx;have hl:0<=l.sum:=by
   clear ih hx
   induction l with
   |nil=>exact Ľ _
   |cons z l ih2=>
    grind[Û,Ï,Ö]
  rw[Û];rcases Ø.mp hx with rfl|hx
  ·lia
  ·have:=ih (λw hw=>h w (Ö _ hw)) x hx;have:=h y Ï;lia
theorem ET {d:Dc}(p:Ps d):∀q∈d,q.2<=bT d:=λq hq=>UG (λx hx=>by
 obtain⟨r,hr,rfl⟩:=Ú.mp hx;have:=p r hr;lia) q.2 (ÿ hq)
theorem d7:∀{d:Dc},Ps d->(d.length:Int)<=bT d
 | [],_=>Ľ _
 |q::d,p=>by
  have:=d7 λr hr=>p r (Ö _ hr);have:=p q Ï;unfold bT at *;rw[Ù,Ç,Û];lia
end Hc.Cn
variable {d W:Hc.Cn.Dc}
namespace Hc
open L2
open Hc.Cn Hc.Ts
def NS:(0:Nat)<=Å/\(1:Nat)<=Å/\(2:Nat)<=Å/\(3:Nat)<=Å/\(4:Nat)<=Å/\(5:Nat)<=Å/\(6:Nat)<=Å/\(10:Nat)<=Å/\(16:Nat)<=Å/\(18:Nat)<=Å/\(22:Nat)<=Å:=by decide
def Pzz:=zyy @aT<|zyy @d9 @NS
def GR (s:U):Prop:=∃v b,s=.lst [.int v,.bl b]/\0<=v/\(b=M->v<2147483647)
theorem Am {s:U}{m:Int}(h:GR s)(h0:0<m)(h1:m<18446744073709551616):∃r s',bI [s,.int m]=.ok (.int r,s')/\0<=r/\r<m/\GR s':=by
 obtain⟨v,b,rfl,hv,hb⟩:=h;cases b with
 |true=>
  refine⟨v % m,.lst [.int (v / m),.bl Z],?_,ŭ _ (by lia),Ŭ _ h0,v / m,Z,rfl,Int.ediv_nonneg hv (by lia),λh=>nomatch h⟩;simp only[bI,iK,Pzz,fB,Nat.reduceAdd,Nat.reduceSub,hJ h0,tG h0 h1,F7]
 |false=>
  have g1:0<=(v*48271+29) % 2147483647:=ŭ _ (by decide);have g2:(v*48271+29) % 2147483647<2147483647:=Ŭ _ (by decide);have c1:jb v 48271=Z:=mN (by decide) (by decide);have d1:decide ((0:Int)<2147483647)=Z:=by decide
  have d2:decide ((0:Int)<2147483629)=Z:=by decide
  have d3:decide ((0:Int)<2147483587)=Z:=by decide
  have e8:Bj (((((v*48271+29) % 2147483647)*((v*48271+29) % 2147483647)+39373*((v*48271+29) % 2147483647)+7) % 2147483629*((((v*48271+29) % 2147483647)*((v*48271+29) % 2147483647)+39373*((v*48271+29) % 2147483647)+7) % 2147483629)+16807*((((v*48271+29) % 2147483647)*((v*48271+29) % 2147483647)+39373*((v*48271+29) % 2147483647)+7) % 2147483629)) % 2147483587) 8=Z:=tG (by decide) (by decide);have c2:jb ((v*48271+29) % 2147483647) ((v*48271+29) % 2147483647)=Z:=uN g1 (by lia);have c3:jb 39373 ((v*48271+29) % 2147483647)=Z:=uN (by decide) (by decide);generalize hs:(v*48271+29) % 2147483647=s1 at *;have g3:0<=(s1*s1+39373*s1+7) % 2147483629:=ŭ _ (by decide);have g4:(s1*s1+39373*s1+7) % 2147483629<2147483629:=Ŭ _ (by decide);have c4:jb ((s1*s1+39373*s1+7) % 2147483629) ((s1*s1+39373*s1+7) % 2147483629)=Z:=uN g3 (by lia);have c5:jb 16807 ((s1*s1+39373*s1+7) % 2147483629)=Z:=uN (by decide) (by decide);refine⟨((s1*s1+39373*s1+7) % 2147483629*((s1*s1+39373*s1+7) % 2147483629)+16807*((s1*s1+39373*s1+7) % 2147483629)) % 2147483587 / 8 % m,.lst [.int s1,.bl M],?_,ŭ _ (by lia),Ŭ _ h0,s1,M,rfl,g1,λ_=>g2⟩
  ·simp only[bI,iK,Pzz,fB,Nat.reduceAdd,Nat.reduceSub,hJ h0,c1,d1,d2,d3,hs,c2,c3,c4,c5,e8,F7]
theorem Ng {us:List U}{k:Int}(hu:u=.scr (ns.map .int)\/u=.lst (ns.map .int))(h0:0<=k):∃s,ej [u,.int k]=.ok s/\GR s:=by
 obtain⟨k,rfl⟩:∃n:Nat,k=n:=⟨k.toNat,by lia⟩;have yO:∃c:Int,dY [u,.int k]=.ok (.int c):=by
  by_cases hk:k<ns.length
  ·refine⟨ns[k],?_⟩;have d:decide ((k:Int)<((ns.map U.int).length:Nat))=Z:=by grind
   have e:pB (ns.map U.int) (k:Int)=J (.int ns[k]):=by rw[yh,ç,á hk];rfl
   rcases hu with rfl|rfl<;>simp only[dY,fq,Pzz,fB,Nat.reduceAdd,Nat.reduceSub,d,e]
  ·refine⟨0,?_⟩;have d:decide ((k:Int)<((ns.map U.int).length:Nat))=M:=by grind
   rcases hu with rfl|rfl<;>simp only[dY,fq,Pzz,fB,Nat.reduceAdd,Nat.reduceSub,d]
 obtain⟨c,hc⟩:=yO;have p18:O8 10 18=Z:=by decide
 have e18:(10:Int) ^ (18:Int).toNat=1000000000000000000:=by decide
 have l2:(2:Nat)<=Å:=by decide
 have dm:decide ((0:Int)<2147483647)=Z:=by decide
 by_cases h:1000000000000000000<=c
 ·refine⟨.lst [.int (c-1000000000000000000),.bl Z],?_,_,Z,rfl,by lia,λh=>nomatch h⟩;simp only[ej,gH,Pzz,fB,Nat.reduceAdd,Nat.reduceSub,hc,p18,e18,hJ h,l2,h_]
 ·refine⟨.lst [.int (c % 2147483647),.bl M],?_,_,M,rfl,ŭ _ (by decide),λ_=>Ŭ _ (by decide)⟩;simp only[ej,gH,Pzz,fB,Nat.reduceAdd,Nat.reduceSub,hc,p18,e18,hV h,l2,dm,h_]
theorem wo {α:Type}:∀(l:List α) (i:Nat) (h:i<l.length),(l[i]::l.eraseIdx i).Perm l
 |x::l,0,_=>ľ _
 |x::l,i+1,h=>by
  have h':i<l.length:=by simpa using h
  show (l[i]::x::l.eraseIdx i).Perm (x::l);exact (List.Perm.swap _ _ _).trans (List.Perm.cons x (wo l i h'))
theorem oX {α β:Type}(f:α->β):∀(l:List α) (i:Nat),(l.map f).eraseIdx i=(l.eraseIdx i).map f
 | [],_=>rfl
 |_::_,0=>rfl
 |x::l,i+1=>by
  show f x::(l.map f).eraseIdx i=f x::(l.eraseIdx i).map f;rw[oX f l i]
theorem UH {k:Int}{y:U}(h1:Ś k us.length=J j)(h2:us[j]? = J y)(h3:0<=k)(h4:k<1000000000):pZ (.lst us) [.int k]=.ok (y,.lst (us.eraseIdx j)):=by
 unfold pZ;dsimp only;rw[h_ (by lia),h1];dsimp only;rw[h2]
def GU (n:Nat)(os:List Int):Prop:=os.Perm (gZ n)
open Hc.Ts
theorem Qk {s:U}{c:Nat}(h:GR s)(hn:(m:Int) / 2=n)(h1:n<=1000)(hc:c<=n)(hm:m<=100):∃(os:List Int) (s':U),dZ [s,.int m,.int c]=.ok (.lst (os.map .int),s')/\os.length=c/\os.Nodup/\(∀x∈os,0<=x/\x<n)/\GR s':=by
 obtain⟨ys,⟨left,s'⟩,e,l,os,hr,hp,pJ⟩:=uP (G:=ip) (js:=[L,J 3,J 0]) (sg:=bo 0) (ge:=gM "list" 1 pZ (ag (HW 2 2 bI (ag (iA gF (ag (ah 1) ar)) ar)) ar))
  (λx:List Int×U=>[J x.2,J (.int m),J (.int c),J (.lst (x.1.map .int))]) c (λys x=>∃os:List Int,ys=os.map .int/\(os++x.1).Perm (gZ n)/\GR x.2)
  (λdone u x hd h00=>by
   obtain⟨os,hr,hp,hs⟩:=h00;obtain⟨left,s⟩:=x;have hl:0<left.length:=by
    have:=hp.length_eq;rw[ã,mO] at this;grind
   have SI:left.length<=n:=by
    have:=hp.length_eq;rw[ã,mO] at this;lia
   obtain⟨r,s',b1,b2,b3,b4⟩:=Am (m:=left.length) hs (by lia) (by lia);obtain⟨k,rfl⟩:∃n:Nat,r=n:=⟨r.toNat,by lia⟩;have hk:k<left.length:=by lia
   refine⟨[J u,J _,J s],.int left[k],[J u,J _,J s'],(left.eraseIdx k,s'),rfl,?_,rfl,os++[left[k]],by rw[hr,ð];rfl,?_,b4⟩
   ·have hx:Ś (k:Int) (left.map U.int).length=J k:=by
     unfold Ś;simp;lia
    have hy:(left.map U.int)[k]? = J (.int left[k]):=by simp
    have pp:=UH hx hy (by lia) (by lia);simp_all[oX,Pzz,Ê]
   ·rw[Ĩ];refine List.Perm.trans (List.Perm.append_left os ?_) hp;exact wo left k hk) (bK 0 c) [] (gZ n,s) (by rw[gW];simp) ⟨[],rfl,ľ _,h⟩
 rw[gW] at l;have ln:os.length=c:=by
  grind
 rw[Υ] at hr;have nd:(gZ n).Nodup:=by
  exact List.Pairwise.map _ (λa b h e=>h (Int.ofNat.inj e)) List.nodup_range
 have nd2:=hp.symm.nodup nd;refine⟨os,s',?_,ln,(Ĳ.mp nd2).1,λx hx=>?_,pJ⟩
 ·have d2:decide ((0:Int)<2)=Z:=by decide
  have c2:Bj (m:Int) 2=Z:=tG (by decide) (by decide);rw[hr] at e;simp only[dZ,iq,Pzz,fB,c2,hn,zm c (by lia),Pm n (by lia),LN] at e |-;simp only[Pzz,e]
 ·have:=hp.mem_iff.mp (Ł _ hx)
  rwa [uR] at this
theorem Nh {s:U}{y2 y3 y5 y6:Option U}(h:GR s)(h1:m<=1000):∃(xs:List Int) (s':U),pV cI [L,J 0] (bo 0) dN (HW 2 1 bI (ag (gC (.int 10)) ar)) (bK 0 m) [J s,J (.int m),y2,y3,L,y5,y6]=.ok (xs.map .int,[J s',J (.int m),y2,y3,L,y5,y6])/\xs.length=m/\GR s':=by
 obtain⟨ys,s',e,l,row,hr,pJ⟩:=uP (G:=cI) (js:=[L,J 0]) (sg:=bo 0) (ge:=HW 2 1 bI (ag (gC (.int 10)) ar)) (λs:U=>[J s,J (.int m),y2,y3,L,y5,y6]) m (λys s=>∃row:List Int,ys=row.map .int/\GR s)
  (λdone u s _ h00=>by
   obtain⟨row,hr,hs⟩:=h00;obtain⟨r,s',b1,b2,b3,b4⟩:=Am (m:=10) hs (by decide) (by decide);refine⟨[J u,J s],.int r,[J u,J s'],s',rfl,?_,rfl,row++[r],by rw[hr,ð];rfl,b4⟩;simp only[Pzz,b1]) (bK 0 m) [] s (by rw[gW];simp) ⟨[],rfl,h⟩
 rw[gW] at l;grind
def XT:Ev->SR:=aJ (ff (sx (ag (ah 2) (ag (ah 3) ar))) (cg 2 (aD (bo 5) (aD (bo 6) bO))) ij) (bb (iA fh (ag (ah 4) ar)))
def XU:fu=aJ (ba 4 (za cI (mw (ag (ah 1) ar)) [L,J 0] (bo 0) dN (HW 2 1 bI (ag (gC (.int 10)) ar)))) XT:=rfl
theorem Ni {s nu bi:U}(h:GR s)(h1:m<=1000){R:List Int->U}(hw:∀xs:List Int,xs.length=m->∀s,D0 (XT [J s,J (.int m),J nu,J bi,J (.lst (xs.map .int)),L,L])=.ok (R xs,s)) :
  ∃(xs:List Int) (s':U),cJ [s,.int m,nu,bi]=.ok (R xs,s')/\xs.length=m/\GR s':=by
 obtain⟨xs,s',e,l,hs⟩:=Nh (y2:=J nu) (y3:=J bi) (y5:=L) (y6:=L) h h1;refine⟨xs,s',?_,l,hs⟩;unfold cJ;rw[XU];simp only[Pzz,fB,zm m (by lia),e];exact hw xs l s'
def DU (d:Dc):U:=.dct (d.map λp=>rowU p.1) (d.map λp=>.int p.2)
def qH (d:Dc):List U:=d.map λp=>rowU p.1
noncomputable def AH (d:Dc):List U:=d.map λp=>U.int p.2
def XW (d:Dc):DU d=.dct (qH d) (AH d):=rfl
theorem GV:∀{a b:List Int},a.map U.int=b.map U.int->a=b
 | [],[],_=>rfl
 | [],_::_,h=>by cases h
 |_::_,[],h=>by cases h
 |x::a,y::b,h=>by
  rw[Ç,Ç] at h;injection h with h1 h2
  cases h1;rw[GV h2]
def dG {a b:List Int}:rowU a=rowU b↔a=b:=by
 constructor
 ·intro h;unfold rowU at h;injection h with h
  exact GV h
 ·intro h;rw[h]
theorem An {k:List Int}:rowU k∈qH d↔k∈d.map (·.1):=by
 unfold qH;constructor
 ·intro h;obtain⟨p,hp,e⟩:=Ú.mp h;rw[<-dG.mp e];exact ÿ hp
 grind
def Nj (d:Dc)(k:List Int)(v:Int):cq (qH d) (rowU k)=qH (j_ d k v):=by
 unfold cq;have e:qH (j_ d k v)=((j_ d k v).map (·.1)).map rowU:=by unfold qH;rw[ñ];rfl
 rw[e,oW];by_cases c:k∈d.map (·.1)
 ·rw[h_ (An.mpr c),h_ c];unfold qH;rw[ñ];rfl
 ·rw[hZ (λz=>c (An.mp z)),hZ c,ð];unfold qH;rw[ñ];rfl
theorem Nk (k:List Int)(v:Int):∀d:Dc,Ā (λa u=>if a=rowU k then U.int v else u) (qH d) (AH d)=AH (d.map λp=>if p.1=k then (p.1,v) else p)
 | []=>rfl
 |p::d=>by
  have ih:=Nk k v d;unfold qH AH at ih |-;rw[Ç,Ç,Ç,Ç,ĸ,ih];congr 1;by_cases c:p.1=k
  ·lia
  ·rw[hZ (λz=>c (dG.mp z)),hZ c]
def Nl (d:Dc)(k:List Int)(v:Int):bS (qH d) (AH d) (rowU k) (.int v)=AH (j_ d k v):=by
 unfold bS j_;by_cases c:k∈d.map (·.1)
 ·rw[h_ (An.mpr c),h_ c,Nk]
 ·rw[hZ (λz=>c (An.mp z)),hZ c];unfold AH;rw[ð];rfl
theorem EU (k:List Int):∀d:Dc,bR (qH d) (AH d) (rowU k)=if k∈d.map (·.1) then J (.int (l_ d k)) else L
 | []=>rfl
 |p::d=>by
  have ih:=EU k d;unfold qH AH at ih |-;rw[Ç,Ç];unfold bR;rw[ih,jk];by_cases c:p.1=k
  ·grind
  ·rw[hZ (λz=>c (dG.mp z)),hZ c];grind
theorem wq:∀l:List Int,uH (l.map U.int)=Z
 | []=>rfl
 |x::l=>by rw[Ç];unfold uH;rw[wq l];rfl
theorem Cu:∀l:List Int,dpKs (l.map U.int)=0
 | []=>rfl
 |x::l=>by rw[Ç];unfold dpKs;rw[Cu l];rfl
def jl (k:List Int):fE (rowU k)=Z:=by
 show (uH (k.map U.int)&&decide (dpKs (k.map U.int)<=6))=Z;rw[wq,Cu];rfl
theorem XX (d:Dc):(qH d).all Ik=Z:=ì.mpr λu hu=>by
 obtain⟨p,_,rfl⟩:=Ú.mp hu;rfl
theorem XY (d:Dc):(qH d).all Ue=Z:=ì.mpr λu hu=>by
 obtain⟨p,_,rfl⟩:=Ú.mp hu;rfl
def Ao (d:Dc)(k:List Int):jd (qH d) (rowU k)=Z:=by
 simp[jd,jl,XX,Bool.or_true]
theorem EV (h:d≠[]):rJ (qH d)=Z:=by
 unfold rJ;rw[XY];cases d with
 |nil=>lia
 |cons=>rfl
def UI (i:Nat)(v k:U)(B:Ev)(o:Option (Option U)):SR:=match o with
 |some (J (.dct ks us))=>if jd ks k=Z/\us.length<Å then .nx (B.set i (J (.dct (cq ks k) (bS ks us k v)))) else .stk
 |_=>.stk
def wu {gv:Ev->R (U×Ev)}:iQ i gv gk B=SR.of (gv B) λx=>if FU x.2[i]? = Z then SR.of (gk x.2) λy=>UI i x.1 y.1 y.2 y.2[i]? else .stk:=nr rfl
theorem Ap (h:d.length<1000000){v:Int}{k:List Int}:UI i (.int v) (rowU k) B (J (J (DU d)))=.nx (B.set i (J (DU (j_ d k v)))):=by
 have sz:Å=16777216:=rfl;have:UI i (.int v) (rowU k) B (J (J (DU d)))=.nx (B.set i (J (.dct (cq (qH d) (rowU k)) (bS (qH d) (AH d) (rowU k) (.int v))))):=h_ ⟨Ao d k,by grind⟩;rw[this,Nj d k v,Nl];rfl
def XZ (k x:U)(B:Ev)(o:Option (Option U)):R (U×Ev):=match o with
 |some (J (.dct ks us))=>if jd ks k=Z then .ok ((bR ks us k).getD x,B) else .stk
 |_=>.stk
def dgA (i:Nat)(g2 g3:Ev->R (U×Ev))(B:Ev)(o:Option (Option U)):R (U×Ev):=match o with
 |some (J (.dct _ _))=>(g2 B).bind λk=>(g3 k.2).bind λx=>XZ k.1 x.1 x.2 x.2[i]?
 |_=>.stk
def tS {g2 g3:Ev->R (U×Ev)}:iP i g2 g3 B=dgA i g2 g3 B B[i]? := nr rfl
def Aq {g2 g3:Ev->R (U×Ev)}:dgA i g2 g3 B (J (J (DU d)))=(g2 B).bind λk=>(g3 k.2).bind λx=>XZ k.1 x.1 x.2 x.2[i]? := nr rfl
theorem Ar {k:List Int}:XZ (rowU k) (.int 0) B (J (J (DU d)))=.ok (.int (l_ d k),B):=by
 refine (h_ (Ao d k)).trans ?_;rw[show bR (d.map λp=>rowU p.1) (d.map λp=>.int p.2) (rowU k)=_ from EU k d];grind[oV]
theorem jW (ws:List (List Int×Int)):(br [] ws).length<=ws.length:=by
 have:∀(ws:List (List Int×Int)) (d:Dc),(br d ws).length<=d.length+ws.length:=by
  intro ws
  induction ws with
  |nil=>intro d;exact Ñ _
  |cons p ws ih=>
   intro d;have h1:=ih (nh d p.1 p.2);have h2:(nh d p.1 p.2).length<=d.length+1:=by
    unfold nh j_;split
    ·rw[Ê];lia
    ·rw[ã,Ŋ];exact Ñ _
   grind[Ù,br,nh]
 have:=this ws [];simpa using this
def lj (d:Dc)(ws:List (List Int×Int))(p:List Int×Int):br d (ws++[p])=nh (br d ws) p.1 p.2:=by
 unfold br;rw[ϯ];rfl
def SU (ss:List (List Int)):U:=.tup (ss.map rowU)
theorem Nm {s:Nat}{x:U}(ss:List (List Int))(hl:ss.length<100000)(mk:Dc->Option U->Ev)(step:∀(d:Dc) (o:Option U) (k:List Int),d.length<1000000->∃B1,bo j (rowU k) (mk d o)=.ok B1/\iQ i (aS dk (iP i (ah j) (gC (.int 0))) (gC (.int 1))) (ah j) B1=.nx (mk (j_ d k (l_ d k+1)) (J (rowU k))))(o:Option U) :
  ∃o',gU (bo j) (iQ i (aS dk (iP i (ah j) (gC (.int 0))) (gC (.int 1))) (ah j)) (ss.map rowU) (mk [] o)=.nx (mk (gg ss) o'):=by
 obtain⟨B',e1,o',e2⟩:=cw (us:=ss.map rowU) (sg:=bo j) (s:=iQ i (aS dk (iP i (ah j) (gC (.int 0))) (gC (.int 1))) (ah j))
  (λn B=>∃o,B=mk (br [] ((ss.take n).map λx=>(x,1))) o)
  (λn u B hu h00=>by
   obtain⟨o,hr⟩:=h00;subst hr;have hn:n<ss.length:=by have:=(é.mp hu).1;rwa [Ê] at this
   rw[ç,á hn] at hu;obtain rfl:rowU ss[n]=u:=by injection hu
   obtain⟨B1,a,b⟩:=step (br [] ((ss.take n).map λx=>(x,1))) o ss[n] (η (jW _) (by grind));refine⟨B1,_,a,.inl b,J (rowU ss[n]),?_⟩;rw[ŀ hn,ð];show _=mk (br [] (_++[(ss[n],1)])) _;rw[lj];rfl)
  (B:=mk [] o) ⟨o,rfl⟩
 refine⟨o',?_⟩;rw[e1,e2,Ê,Ĺ];rfl
theorem EW {x:U}(hx:Iw x=λB=>.ok (ss.map rowU,B))(hl:ss.length<100000):lF [x]=.ok (DU (gg ss)):=by
 obtain⟨o',e⟩:=Nm (s:=0) (x:=x) (i:=1) (j:=2) ss hl (λd o=>[J x,J (DU d),o]) (λd o k hd=>⟨[J x,J (DU d),J (rowU k)],rfl,by
  simp only[Pzz,fB,Nat.reduceAdd,Nat.reduceSub,wu,tS,Aq,Ar,Ap hd]⟩) L
 have e0:DU []=.dct [] []:=rfl;rw[e0] at e;unfold lF qd vJ;simp only[Pzz,fB,Nat.reduceAdd,Nat.reduceSub,hx,e]
theorem Nn {a b:Int}(h0:0<=a)(h1:0<b):(ú b.toNat (a % b).toNat)=ú a.toNat b.toNat:=by
 obtain⟨n,rfl⟩:∃n:Nat,a=n:=⟨a.toNat,by lia⟩;obtain⟨m,rfl⟩:∃m:Nat,b=m:=⟨b.toNat,by lia⟩;grind[Int.natCast_emod,ĝ,Nat.gcd_comm,Nat.gcd_rec]
theorem Sh {i:Int}(h:0<=i):Ib [.int i]=.ok (.int i):=by
 have e:Ib [.int i]=.ok (.int (if i<0 then -i else i)):=nr rfl;lia
theorem GW:∀(n:Nat) (a b:Int) (o:Option U),0<=a->0<=b->b<n->∃o',jz (gB (aS (je not) (ah 1) (gC (.int 0)))) (aJ (ba 2 (aS su (ah 0) (ah 1))) (aJ (ba 0 (ah 1)) (ba 1 (ah 2)))) n [J (.int a),J (.int b),o]=.nx [J (.int (ú a.toNat b.toNat)),J (.int 0),o']
 |0,a,b,o,h0,h1,h2=>by lia
 |n+1,a,b,o,h0,h1,h2=>by
  by_cases c:b=0
  ·subst c;refine⟨o,?_⟩;have:((ú a.toNat (0:Int).toNat:Nat):Int)=a:=by grind
   rw[this];rfl
  ·have hb:0<b:=by lia
   obtain⟨o',e⟩:=GW n b (a % b) (J (.int (a % b))) h1 (ŭ _ c) (by have:=Ŭ a hb;lia);refine⟨o',?_⟩;rw[Nn h0 hb] at e;have cb:(b==0)=M:=beq_eq_false_iff_ne.mpr c;simp only[Pzz,fB,Nat.reduceAdd,Nat.reduceSub,tR,cb,F4,hJ hb,e]
theorem X0 {a b:Int}(h0:0<=a)(h1:0<=b)(h2:b<1000000000000000):du [.int a,.int b]=.ok (.int (ú a.toNat b.toNat)):=by
 obtain⟨o',e⟩:=GW 1000000000000000 a b L h0 h1 h2;unfold du eO;simp_all[Pzz,fB,Nat.reduceAdd,Nat.reduceSub,Sh]
theorem jm {α:Type}{f:U->R (Option U)}{c g:α->U}:∀{xs:List α},(∀x∈xs,f (c x)=.ok (J (g x)))->JG f (xs.map c)=.ok (xs.map g)
 | [],_=>rfl
 |x::xs,h=>by
  rw[Ç,Ç];unfold JG;rw[h x Ï];show (JG f (xs.map c)).bind _=_;rw[jm λy hy=>h y (Ö _ hy)];rfl
def wkB (u:U)(B:Ev):R (List U×Ev):=match u with
 | .dct ks _=>if rJ ks=Z then .ok (ks,B) else .stk
 |_=>.stk
def wiB (u:U)(B:Ev):R (List U×Ev):=match u with
 | .dct ks us=>if rJ ks=Z then .ok (Ā (λk u=>.tup [k,u]) ks us,B) else .stk
 |_=>.stk
def aaj:VG g B=(g B).bind λx=>wkB x.1 x.2:=nr rfl
def Ql:LW g B=(g B).bind λx=>wiB x.1 x.2:=nr rfl
def Np (p:List Int×Int):U:=.tup [rowU p.1,.int p.2]
theorem tU (h:d≠[]):wiB (DU d) B=.ok (d.map Np,B):=by
 refine (h_ (EV h)).trans ?_;simp[Ā,rowU,Np,Ç,ĸ]
noncomputable def frB (i:Nat):SR->SR
 | .nx B'=>.nx (B'.set i L)
 | .bk B'=>.bk (B'.set i L)
 | .ct B'=>.ct (B'.set i L)
 | .rt u B'=>.rt u (B'.set i L)
 |r=>r
theorem Nq {g:Ev->SR}:vi i g B=frB i (g B):=nr (by rfl)
def Nr:frB i (.rt u B)=.rt u (B.set i L):=nr rfl
theorem X1 {k:List Int}(h:k∈d.map (·.1)):gj (DU d) (rowU k)=.ok (.int (l_ d k)):=by
 have e:gj (DU d) (rowU k)=if jd (qH d) (rowU k)=Z then (match bR (qH d) (AH d) (rowU k) with
  |some z=>.ok z
  |none=>.stk) else .stk:=rfl
 rw[e,h_ (Ao d k),EU,h_ h]
def VL {a b:U}:cg 2 (aD (bo i) (aD (bo j) bO)) (.tup [a,b]) B=.ok ((B.set i (J a)).set j (J b)):=nr rfl
noncomputable def aK (a b:List Int):List Int:=b.map λi=>a.getD i.toNat 0
theorem Qm {a b:List Int}(h:∀i∈b,0<=i/\i<a.length):JG (HZ [L,J 0] (bo 0) dN (aS cv (ah 1) (ah 0)) [J (rowU a),J (rowU b)]) (b.map U.int)=.ok ((aK a b).map U.int):=by
 have e:=jm (f:=HZ [L,J 0] (bo 0) dN (aS cv (ah 1) (ah 0)) [J (rowU a),J (rowU b)]) (c:=U.int) (g:=λi:Int=>U.int (a.getD i.toNat 0)) (xs:=b) λi hi=>by
  obtain⟨h0,h1⟩:=h i hi;obtain⟨n,rfl⟩:∃n:Nat,i=n:=⟨i.toNat,by lia⟩;have hn:n<a.length:=by lia
  have e1:pB (a.map U.int) (n:Int)=J (.int a[n]):=by rw[yh,ç,á hn];rfl
  have e2:a.getD (n:Int).toNat 0=a[n]:=by rw[ĝ,ϭ,á hn];rfl
  simp only[Pzz,fB,Nat.reduceAdd,Nat.reduceSub,rowU,e1,e2]
 rw[e];unfold aK;rw[ñ];rfl
theorem wx {a b:List Int}(h:∀i∈b,0<=i/\i<a.length)(hl:b.length<=1000):eQ [rowU a,rowU b]=.ok (rowU (aK a b)):=by
 have e:=Qm h;have sz:((aK a b).map U.int).length<=Å:=by rw[Ê];unfold aK;rw[Ê];have:Å=16777216:=rfl;lia
 unfold eQ mU;simp_all[rowU,Pzz,fB,Nat.reduceAdd,Nat.reduceSub]
theorem lP:∀ns:List Int,fF (ns.map U.int)=J ns
 | []=>rfl
 |n::ns=>by rw[Ç];show (fF (ns.map U.int)).map _=_;rw[lP ns];rfl
theorem wy:∀{eW:List (List Int)},(∀ns∈eW,ns≠[])->vo (eW.map rowU)=J eW
 | [],_=>rfl
 |ns::eW,h=>by
  rw[Ç];unfold vo;have e1:Pw (rowU ns)=J ns:=by
   show (match fF (ns.map U.int) with|some (n::ns)=>J (n::ns)|_=>L)=_;rw[lP];cases ns with
   |nil=>exact absurd rfl (h [] Ï)
   |cons=>rfl
  rw[e1,wy λx hx=>h x (Ö _ hx)]
theorem Js (h:d≠[])(ln:d.length<64)(hr:∀p∈d,p.1≠[]):oC [DU d]=.ok (.lst ((oA (d.map (·.1))).map rowU)):=by
 have e:oC [DU d]=if rJ (qH d)=Z then iR (qH d) else .stk:=rfl
 rw[e,h_ (EV h)];unfold iR;have e2:vo (qH d)=J (d.map (·.1)):=by
  have:qH d=(d.map (·.1)).map rowU:=by rw[ñ];rfl
  rw[this];exact wy λns hn=>by grind
 grind
def Qn (ss:List (List Int)):Iw (SU ss)=λB=>.ok (ss.map rowU,B):=by rfl
def svB (u:U)(B:Ev):R (U×Ev):=match u with
 | .dct ks us=>if rJ ks=Z then (match fF us with
  |some ns=>if iS ns=Z then .ok (.int ns.sum,B) else .stk
  |none=>.stk) else .stk
 |_=>.stk
def Nt:BK g B=(g B).bind λx=>svB x.1 x.2:=nr rfl
theorem GX (h:d≠[])(l:d.length<=1000000)(hv:∀p∈d,0<=p.2/\p.2<=1000000000):svB (DU d) B=.ok (.int (bT d),B):=by
 have e:svB (DU d) B=if rJ (qH d)=Z then (match fF (AH d) with
  |some ns=>if iS ns=Z then .ok _ else .stk
  |none=>.stk) else .stk:=rfl
 have e2:fF (AH d)=J (d.map (·.2)):=by
  have:AH d=(d.map (·.2)).map U.int:=by rw[ñ];rfl
  rw[this,lP]
 rw[e,h_ (EV h),e2];dsimp only;rw[h_]
 ·rfl
 ·unfold iS;rw[ß,decide_eq_true_eq,Ê,ì];refine⟨by lia,λx hx=>?_⟩;obtain⟨p,hp,rfl⟩:=Ú.mp hx;have:=hv p hp;exact hJ (by lia)
noncomputable def bE (t b:Int):Int×Int:=(t / (ú t.toNat b.toNat:Nat),b / (ú t.toNat b.toNat:Nat))
noncomputable def i5 (p:Int×Int):U:=.tup [.int p.1,.int p.2]
theorem Nu {p q:Nat}(hq:0<q)(hm:0<m)(hc:ú p q=1)(h:p*m=n*q):n / ú n m=p/\m / ú n m=q:=by
 have d:q ∣ m:=by
  have:q ∣ p*m:=⟨n,by rw[h,Nat.mul_comm]⟩;exact (Nat.Coprime.dvd_of_dvd_mul_left (k:=q) (n:=m) (m:=p) (by grind) this)
 obtain⟨k,rfl⟩:=d;have hk:0<k:=Nat.pos_of_ne_zero λe=>by subst e;simp at hm
 have hn:n=p*k:=by
  grind[Nat.mul_comm,Nat.mul_assoc,Nat.eq_of_mul_eq_mul_right]
 subst hn;simp[ú,Nat.gcd_mul_right,hc,Nat.one_mul,Nat.mul_div_cancel,hk]
theorem wz {p q t b:Int}(hp:0<=p)(hq:0<q)(ht:0<=t)(hb:0<b)(hc:ú p.toNat q.toNat=1)(h:p*b=t*q):bE t b=(p,q):=by
 obtain⟨p,rfl⟩:∃n:Nat,p=n:=⟨p.toNat,by lia⟩;obtain⟨q,rfl⟩:∃n:Nat,q=n:=⟨q.toNat,by lia⟩;obtain⟨t,rfl⟩:∃n:Nat,t=n:=⟨t.toNat,by lia⟩;obtain⟨b,rfl⟩:∃n:Nat,b=n:=⟨b.toNat,by lia⟩;have h':p*b=t*q:=by exact_mod_cast h
 obtain⟨e1,e2⟩:=Nu (by lia) (by lia) (by simpa using hc) h';unfold bE;simp only[ĝ];rw[<-ι,<-ι,e1,e2]
theorem ni {t b:Int}(ht:0<=t)(hb:0<b):0<=(bE t b).1/\0<(bE t b).2/\(bE t b).1*b=t*(bE t b).2/\ú (bE t b).1.toNat (bE t b).2.toNat=1/\(bE t b).2 ∣ b:=by
 obtain⟨t,rfl⟩:∃n:Nat,t=n:=⟨t.toNat,by lia⟩;obtain⟨b,rfl⟩:∃n:Nat,b=n:=⟨b.toNat,by lia⟩;have tW:0<b:=by lia
 have hg:0<ú t b:=ϱ _ tW;have d1:=Nat.gcd_dvd_left t b;have d2:=Nat.gcd_dvd_right t b;unfold bE;simp only[ĝ];rw[<-ι,<-ι];refine⟨Int.natCast_nonneg _,?_,?_,?_,?_⟩
 ·have:=Nat.div_pos (Nat.le_of_dvd tW d2) hg;lia
 ·have:t / ú t b*b=t*(b / ú t b):=by
   grind[ú,Nat.div_mul_cancel,Nat.mul_comm,Nat.mul_assoc]
  exact_mod_cast this
 ·simp only[ĝ];exact Nat.coprime_div_gcd_div_gcd hg
 ·exact ϝ.mpr (Nat.div_dvd_of_dvd d2)
theorem EX {t b t' b':Int}(ht:0<=t)(hb:0<b)(ht':0<=t')(tW:0<b')(h:t*b'=t'*b):bE t b=bE t' b':=by
 obtain⟨r1,r2,r3,r4,_⟩:=ni ht' tW;refine wz r1 r2 ht hb r4 ?_;have:((bE t' b').1*b)*b'=(t*(bE t' b').2)*b':=by
  grind
 exact Int.eq_of_mul_eq_mul_right (by lia) this
theorem X2 {v:Int}{g:Nat}(h:0<g)(h2:g<1000000000000000):qU (.int v) (.int g)=.ok (.int (v / g)):=by
 have d:decide ((0:Int)<(g:Int))=Z:=hJ (by lia);have c:Bj v (g:Int)=Z:=tG (by lia) (by lia);simp only[D4,d,c,if_true]
theorem Jt {t b:Int}(hb:0<b)(h2:b<1000000000000000):0<ú t.toNat b.toNat/\ú t.toNat b.toNat<1000000000000000:=by
 grind[ϱ,Nat.gcd_le_right]
theorem oY {t b:Int}(h0:0<=t)(h1:0<b)(h2:b<1000000000000000):gG [.int t,.int b]=.ok (i5 (bE t b)):=by
 have e:=X0 h0 (by lia) h2;obtain⟨g1,g2⟩:=Jt (t:=t) h1 h2;have d:decide (b<0)=M:=hV (by lia);unfold gG zC;simp only[Pzz,fB,Nat.reduceAdd,Nat.reduceSub,e,d,X2 g1 g2];rfl
noncomputable def wt (D:Int)(g:Int×Int):Int:=g.1*(D / g.2)
def X3 {D:Int}{g:Int×Int}(h:g.2 ∣ D):g.1*D=wt D g*g.2:=by
 unfold wt;rw[Ę,Int.ediv_mul_cancel h]
def X4 (D:Int)(g:Int×Int):Prop:=0<=g.1/\0<g.2/\g.2 ∣ D
theorem X5 {D:Int}(hD:0<D){g:Int×Int}(h:X4 D g):0<=wt D g:=Int.mul_nonneg h.1 (Int.ediv_nonneg (by lia) (by have:=h.2.1;lia))
def Qo {f1 f2 g1 g2 S w D:Int}(h1:f1*D=S*f2)(h2:g1*D=w*g2):(f1*g2+g1*f2)*D=(S+w)*(f2*g2):=by
 grind
theorem Nv {D S:Int}(hD:0<D)(hS:0<=S){g:Int×Int}(h:X4 D g):bE ((bE S D).1*g.2+g.1*(bE S D).2) ((bE S D).2*g.2)=bE (S+wt D g) D:=by
 obtain⟨r1,r2,r3,_,_⟩:=ni hS hD;obtain⟨g0,g1,g2⟩:=h;have w0:=X5 hD ⟨g0,g1,g2⟩;refine EX ?_ (Int.mul_pos r2 g1) (by lia) hD (Qo r3 (X3 g2));exact Int.add_nonneg (Int.mul_nonneg r1 (by lia)) (Int.mul_nonneg g0 (by lia))
def Nw {D:Int}(hD:0<D):bE 0 D=(0,1):=wz (by decide) (by decide) (by decide) hD (by decide) (by simp)
structure Sf (n:Nat)(ss:List (List Int)):Prop where
 n1:1<=n
 n8:n<=8
 o:∀o∈ss,GU n o
 l1:1<=ss.length
 l2:ss.length<=24
def Qp {o:List Int}(h:GU n o):∀i∈o,0<=i/\i<n:=λi hi=>uR.mp (h.mem_iff.mp hi)
def GY {o:List Int}(h:GU n o):o.length=n:=by have:=h.length_eq;rwa [mO] at this
noncomputable def eB (bX:List (List Int))(x:List Int):List (List Int):=if x∈bX then bX else bX++[x]
def Cv (l:List (List Int)):List (List Int):=l.foldl eB []
theorem wA {vf:List Int->U}(k:List Int):∀ks:List (List Int),bR (ks.map rowU) (ks.map vf) (rowU k)=if k∈ks then J (vf k) else L
 | []=>rfl
 |x::ks=>by
  rw[Ç,Ç];unfold bR;by_cases c:x=k
  ·grind
  ·rw[hZ (λz=>c (dG.mp z)),wA k ks];grind
theorem oZ {k:List Int}{ks:List (List Int)}:rowU k∈ks.map rowU↔k∈ks:=by
 constructor
 ·intro h;obtain⟨x,hx,e⟩:=Ú.mp h;rw[<-dG.mp e];exact hx
 ·exact λh=>ÿ h
def GZ (ks:List (List Int))(k:List Int):cq (ks.map rowU) (rowU k)=(eB ks k).map rowU:=by
 unfold cq eB;by_cases c:k∈ks
 ·rw[h_ (oZ.mpr c),h_ c]
 ·rw[hZ (λz=>c (oZ.mp z)),hZ c,ð];rfl
theorem Si {vf:List Int->U}{w:U}(k:List Int):∀ks:List (List Int),Ā (λk' u=>if k'=rowU k then w else u) (ks.map rowU) (ks.map vf)=ks.map λk'=>if k'=k then w else vf k'
 | []=>rfl
 |x::ks=>by
  rw[Ç,Ç,ĸ,Si k ks,Ç];congr 1;by_cases c:x=k
  ·lia
  ·rw[hZ (λz=>c (dG.mp z)),hZ c]
def G0 {vf:List Int->U}{w:U}(ks:List (List Int))(k:List Int):bS (ks.map rowU) (ks.map vf) (rowU k) w=(eB ks k).map λk'=>if k'=k then w else vf k':=by
 unfold bS eB;by_cases c:k∈ks
 ·rw[h_ (oZ.mpr c),h_ c,Si]
 ·rw[hZ (λz=>c (oZ.mp z)),hZ c,ð];congr 1
  ·refine ö λx hx=>?_;lia
  simp
theorem yJ:∀(l bX:List (List Int)) (x:List Int),x∈l.foldl eB bX↔x∈bX\/x∈l
 | [],bX,x=>by simp
 |y::l,bX,x=>by
  rw[ź,yJ l (eB bX y) x,Ø];grind[eB,ı,Ą]
theorem wB:∀(l bX:List (List Int)),bX.Nodup->(l.foldl eB bX).Nodup
 | [],bX,h=>h
 |y::l,bX,h=>by
  rw[ź];refine wB l _ ?_;grind[eB,ķ,Ą]
theorem wC:∀(l bX:List (List Int)),(l.foldl eB bX).length<=bX.length+l.length
 | [],bX=>by simp
 |y::l,bX=>by
  rw[ź,Ù];have:=wC l (eB bX y);have h2:(eB bX y).length<=bX.length+1:=by unfold eB;split<;>simp
  lia
theorem Ny {s:Ev->SR}(I:Nat->Ev->Prop)(step:∀(j:Nat) (u:U) (B:Ev),us[j]? = J u->I j B->∃B1 B2,sg u (B.set i L)=.ok B1/\s (B1.set i (B[i]?.getD L))=.nx B2/\I (j+1) B2)(h:I 0 B) :
  ∃B',BQ i sg s us B=.nx B'/\I us.length B':=by
 have gen:∀(n j:Nat) (B:Ev),j+n=us.length->I j B->∃B',BQ i sg s (us.drop j) B=.nx B'/\I us.length B':=by
  intro n
  induction n with
  |zero=>
   intro j B hj h;have:j=us.length:=by lia
   subst this;rw[ş];exact⟨B,rfl,h⟩
  |succ n ih=>
   intro j B hj h;have pq:j<us.length:=by lia
   obtain⟨B1,B2,a,b,c⟩:=step j us[j] B (á pq) h;obtain⟨B',d,e⟩:=ih (j+1) B2 (by lia) c;refine⟨B',?_,e⟩;rw[Ķ pq];unfold BQ;rw[a];show (match s (B1.set i (B[i]?.getD L)) with|.nx B2=>_|.ct B2=>_|.bk B2=>_|r=>_)=_;rw[b];exact d
 have:=gen us.length 0 B (by lia) h
 rwa [List.drop_zero] at this
def j7 (W C:Dc):List (List Int×Int):=C.flatMap λo=>W.map λr=>(aK r.1 o.1,r.2*o.2)
theorem Ju (W C:Dc):(j7 W C).length=C.length*W.length:=by
 unfold j7
 induction C with
 |nil=>simp
 |cons o C ih=>rw[Ψ,ã,ih,Ê,Ù,Nat.add_mul,Nat.one_mul,Nat.add_comm]
theorem X6 (hW:W≠[])(wl:W.length<=999999)(hr:∀r∈W,r.1.length=n){o:List Int×Int}(ho:GU n o.1)(n8:n<=8)(ho0:0<=o.2)(hob:o.2<1000){ws:List (List Int×Int)}(wb:ws.length+W.length<1000000){x1 o6 o7:Option U} :
  ∃o5' o6' o7',lG [J (DU W),x1,J (DU (br [] ws)),J (rowU o.1),J (.int o.2),o5,o6,o7]=.nx [J (DU W),x1,J (DU (br [] (ws++W.map λr=>(aK r.1 o.1,r.2*o.2)))),J (rowU o.1),J (.int o.2),o5',o6',o7']:=by
 obtain⟨B,e,o5',o6',o7',rfl⟩:=cw (us:=W.map Np) (sg:=cg 2 (aD (bo 5) (aD (bo 6) bO))) (s:=qe)
  (λi B=>∃o5 o6 o7,B=[J (DU W),x1,J (DU (br [] (ws++(W.take i).map λr=>(aK r.1 o.1,r.2*o.2)))),J (rowU o.1),J (.int o.2),o5,o6,o7])
  (λi u B hu h00=>by
   obtain⟨o5,o6,o7,hr'⟩:=h00;subst hr';have hi:i<W.length:=by have:=(é.mp hu).1;rwa [Ê] at this
   rw[ç,á hi] at hu;obtain rfl:Np W[i]=u:=by injection hu
   have el:=hr _ (ĩ hi);have lo:=wx (a:=W[i].1) (b:=o.1) (λj hj=>by rw[el];exact Qp ho j hj) (by rw[GY ho];lia);have ql:(br [] (ws++(W.take i).map λr=>(aK r.1 o.1,r.2*o.2))).length<1000000:=by
    grind[jW,aK,ã,Ê,ŝ]
   have c:jb W[i].2 o.2=Z:=mN ho0 (by lia);have sn:br [] (ws++(W.take (i+1)).map λr=>(aK r.1 o.1,r.2*o.2))=nh (br [] (ws++(W.take i).map λr=>(aK r.1 o.1,r.2*o.2))) (aK W[i].1 o.1) (W[i].2*o.2):=by
    rw[ŀ hi,ð,<-Ĩ,Ç,ϔ,lj]
   rw[sn];refine⟨[J (DU W),x1,J (DU (br [] (ws++(W.take i).map λr=>(aK r.1 o.1,r.2*o.2)))),J (rowU o.1),J (.int o.2),J (rowU W[i].1),J (.int W[i].2),o7],_,VL,.inl ?_,J (rowU W[i].1),J (.int W[i].2),J (rowU (aK W[i].1 o.1)),rfl⟩;unfold qe;simp only[Pzz,fB,Nat.reduceAdd,Nat.reduceSub,lo,wu,tS,Aq,Ar,c,Ap ql];rfl)
  (B:=[J (DU W),x1,J (DU (br [] ws)),J (rowU o.1),J (.int o.2),o5,o6,o7]) ⟨o5,o6,o7,by simp⟩
 rw[Ê,Ĺ] at e;refine⟨o5',o6',o7',?_⟩;unfold lG;simp only[Pzz,fB,Nat.reduceAdd,Nat.reduceSub,Ql,tU hW,e]
theorem wD:∀(ws:List (List Int×Int)) (d:Dc) (p:List Int×Int),p∈br d ws->p.1∈d.map (·.1)\/p.1∈ws.map (·.1)
 | [],d,p,h=>.inl (ÿ h)
 |q::ws,d,p,h=>by
  rcases wD ws _ p h with h|h
  ·grind[nh,oW,Ą,Ï]
  grind
theorem G1 {l:List (List Int)}{p:List Int×Int}(h:p∈gg l):p.1∈l:=by
 have key:∀(ws:List (List Int×Int)) (d:Dc) (p:List Int×Int),p∈br d ws->p.1∈d.map (·.1)\/p.1∈ws.map (·.1):=by
  intro ws
  induction ws with
  |nil=>exact λd p hp=>.inl (ÿ hp)
  |cons w ws ih=>
   intro d p hp;rcases ih (nh d w.1 w.2) p hp with z|z
   ·grind[nh,oW,Ą,Ï]
   ·exact .inr (Ö _ z)
 rcases key _ _ p h with z|z
 ·cases z
 grind
def Qq (l:List (List Int)):(gg l).length<=l.length:=by
 have:=jW (l.map λx=>(x,1));rw[Ê] at this;exact this
def Nz (l:List (List Int)):∀p∈gg l,p.2<=l.length:=λp hp=>by
 have:=ET (Ak l).2.1 p hp
 rwa [GQ] at this
theorem UJ {l:List (List Int)}(h:1<=l.length):gg l≠[]:=λe=>by
 grind[GQ,bT]
theorem Jv (hW:W≠[])(hr:∀r∈W,r.1.length=n)(hs:Sf n ss)(wl:W.length*ss.length<900000):oH [DU W,SU ss]=.ok (DU (br [] (j7 W (gg ss)))):=by
 have SI:=hs.l2;have cl:=Qq ss;obtain⟨cn,cp,_⟩:=Ak ss;have co:=EW (x:=SU ss) (ss:=ss) (Qn ss) (by lia);obtain⟨B,e,o3,o4,o5,o6,o7,rfl⟩:=cw (us:=(gg ss).map Np) (sg:=cg 2 (aD (bo 3) (aD (bo 4) bO))) (s:=lG)
  (λi B=>∃o3 o4 o5 o6 o7,B=[J (DU W),J (SU ss),J (DU (br [] (j7 W ((gg ss).take i)))),o3,o4,o5,o6,o7])
  (λi u B hu h00=>by
   obtain⟨o3,o4,o5,o6,o7,hr'⟩:=h00;subst hr';have hi:i<(gg ss).length:=by have:=(é.mp hu).1;rwa [Ê] at this
   rw[ç,á hi] at hu;obtain rfl:Np (gg ss)[i]=u:=by injection hu
   have hm:=ĩ hi;have p1:=cp _ hm;have p2:=Nz ss _ hm;have pl:(j7 W ((gg ss).take i)).length+W.length<1000000:=by
    rw[Ju,ŝ];have h1:(i+1)*W.length<=ss.length*W.length:=Nat.mul_le_mul (by lia) (Ñ _);lia
   obtain⟨o5',o6',o7',q⟩:=X6 hW (by lia) hr (o:=(gg ss)[i]) (hs.o _ (G1 hm)) hs.n8 (by lia) (by lia) pl (x1:=J (SU ss)) (o5:=o5) (o6:=o6) (o7:=o7);have ef:j7 W ((gg ss).take (i+1))=j7 W ((gg ss).take i)++W.map λr=>(aK r.1 (gg ss)[i].1,r.2*(gg ss)[i].2):=by
    unfold j7;rw[ŀ hi,List.flatMap_append,Ψ,List.flatMap_nil,Ĝ]
   rw[ef];exact⟨_,_,VL,.inl q,_,_,_,_,_,rfl⟩)
  (B:=[J (DU W),J (SU ss),J (DU []),L,L,L,L,L]) ⟨_,_,_,_,_,rfl⟩
 rw[Ê,Ĺ] at e;have e0:DU []=.dct [] []:=rfl;rw[e0] at e;unfold oH vK;simp only[Pzz,fB,Nat.reduceAdd,Nat.reduceSub,co,Ql,tU (UJ hs.l1),e]
noncomputable abbrev Tr:=List (List Int)
def gw (p:U)(t:Tr)(b:Int)(W:Dc):U:=.obj ["plan","trace","bottom","weights"] [p,trU t,.int b,DU W]
def xA {t:Tr}{b:Int}:bL "plan" (gw p t b W)=.ok p:=nr (by kernel_rfl)
def Qr {t:Tr}{b:Int}:bL "trace" (gw p t b W)=.ok (trU t):=nr (by kernel_rfl)
def UK {t:Tr}{b:Int}:bL "bottom" (gw p t b W)=.ok (.int b):=nr (by kernel_rfl)
def Qs {t:Tr}{b:Int}:bL "weights" (gw p t b W)=.ok (DU W):=nr (by kernel_rfl)
def NA {fs:List Str}:zo fs ga B=(ga B).bind λx=>if x.1.length=fs.length then .ok (.obj fs x.1,x.2) else .stk:=nr rfl
structure Sn (n:Nat)(b:Int)(W:Dc):Prop where
 ne:W≠[]
 nd:Nd W
 ps:Ps W
 ln:∀p∈W,p.1.length=n
 b0:0<b
 le:bT W<=b
theorem Sn.t0 {b:Int}(h:Sn n b W):1<=bT W:=by
 have h1:=d7 h.ps;have:=List.length_pos_iff.mpr h.ne;lia
theorem qI {t:Tr}{b:Int}(h:Sn n b W)(hb:b<=1000000):a8 [gw p t b W]=.ok (i5 (bE (bT W) b)):=by
 have h1:=d7 h.ps;have h2:=h.le;have sv:=λ{B:Ev}=>GX (B:=B) h.ne (by lia) λp hp=>⟨by have:=h.ps p hp;lia,by have:=ET h.ps p hp;lia⟩;have ra:=oY (t:=bT W) (by lia) h.b0 (by lia);unfold a8 kN;simp only[Pzz,fB,Qs,UK,Nt,sv,ra]
theorem NB {D b y:Int}(hy:0<=y)(hb:0<b)(hd:b ∣ D):wt D (bE y b)=y*(D / b)/\(bE y b).2 ∣ D:=by
 obtain⟨r1,r2,r3,r4,r5⟩:=ni hy hb;obtain⟨k,rfl⟩:=hd;have e1:b=(bE y b).2*(ú y.toNat b.toNat:Nat):=by
  have:(ú y.toNat b.toNat:Int) ∣ b:=by
   have:=Nat.gcd_dvd_right y.toNat b.toNat;have:=ϝ.mpr this
   rwa [Int.toNat_of_nonneg (by lia)] at this
  exact (Int.ediv_mul_cancel this).symm
 have e2:y=(bE y b).1*(ú y.toNat b.toNat:Nat):=by
  have:(ú y.toNat b.toNat:Int) ∣ y:=by
   have:=Nat.gcd_dvd_left y.toNat b.toNat;have:=ϝ.mpr this
   grind
  exact (Int.ediv_mul_cancel this).symm
 have gp:(0:Int)<(ú y.toNat b.toNat:Nat):=by
  lia
 clear r3 r4 r5;unfold wt;generalize ((ú y.toNat b.toNat:Nat):Int)=g at *;generalize (bE y b).1=q1 at *;generalize (bE y b).2=q2 at *;subst e1 e2;rw[Ę q2 g k,ū _ (by lia),<-Ę q2 g k,ū _ (by lia)];simp[Ę]
def lQ {x D:Int}(hx:0<=x)(hD:0<D):(bE x D).2<=D:=by
 have:=(NB hx hD (Int.dvd_refl D)).2;exact Int.le_of_dvd hD this
theorem Qt {D b x y:Int}(hD:0<D)(yQ:D<=10000000)(hx:0<=x)(hy:0<=y)(hb:0<b)(hd:b ∣ D):cE [i5 (bE x D),i5 (bE y b)]=.ok (i5 (bE (x+y*(D / b)) D)):=by
 obtain⟨r1,r2,_⟩:=ni hx hD;obtain⟨s1,s2,_⟩:=ni hy hb;have b1:=lQ hx hD;have b2:=lQ hy hb;have b3:=Int.le_of_dvd hD hd;obtain⟨w1,w2⟩:=NB hy hb hd;have st:=Nv (g:=bE y b) hD hx ⟨s1,s2,w2⟩;rw[w1] at st;have c1:jb (bE x D).1 (bE y b).2=Z:=mN (by lia) (by lia);have c2:jb (bE y b).1 (bE x D).2=Z:=mN (by lia) (by lia);have c3:jb (bE x D).2 (bE y b).2=Z:=mN (by lia) (by lia);have l2:(bE x D).2*(bE y b).2<=10000000*10000000:=ſ (by lia) (by lia) (by lia) (by lia);have ra:=oY (t:=(bE x D).1*(bE y b).2+(bE y b).1*(bE x D).2) (b:=(bE x D).2*(bE y b).2) (Int.add_nonneg (Int.mul_nonneg r1 (by lia)) (Int.mul_nonneg s1 (by lia))) (Int.mul_pos r2 s2) (by lia);unfold cE Ep;simp only[Pzz,fB,Nat.reduceAdd,Nat.reduceSub,i5] at ra |-;simp only[c1,c2,c3,Pzz,fB,Nat.reduceAdd,Nat.reduceSub,ra,st]
theorem Qu {D x y:Int}(hD:0<D)(yQ:D<=10000000)(hx:0<=x)(hy:0<y)(hy2:y<=D):mT [i5 (bE x D),i5 (bE y D)]=.ok (i5 (bE x y)):=by
 obtain⟨r1,r2,r3,_⟩:=ni hx hD;obtain⟨s1,s2,s3,s4,s5⟩:=ni (show 0<=y by lia) hD;have b1:=lQ hx hD;have b2:=lQ (show 0<=y by lia) hD;have s0:0<(bE y D).1:=by
  rcases Int.lt_or_eq_of_le s1 with z|z
  ·exact z
  ·rw[<-z] at s3;have:=Int.mul_pos hy s2;lia
 have b4:=by
  have h1:(bE y D).1*D<=D*D:=by
   rw[s3];exact ſ hy2 b2 (by lia) (by lia)
  exact Int.le_of_mul_le_mul_right h1 hD
 have c1:jb (bE x D).1 (bE y D).2=Z:=mN (by lia) (by lia);have c2:jb (bE x D).2 (bE y D).1=Z:=uN (by lia) (by lia);have l2:(bE x D).2*(bE y D).1<=10000000*10000000:=ſ (by lia) (by lia) (by lia) (by lia);have ra:=oY (t:=(bE x D).1*(bE y D).2) (Int.mul_nonneg r1 (by lia)) (Int.mul_pos r2 s0) (by lia);have e:bE ((bE x D).1*(bE y D).2) ((bE x D).2*(bE y D).1)=bE x y:=by
  grind[EX,Int.mul_nonneg,Int.mul_pos,Int.eq_of_mul_eq_mul_right,bE]
 rw[e] at ra;unfold mT Er;simp only[i5] at ra |-;simp only[c1,c2,Pzz,fB,ra]
def CT (W:Dc)(ss:List (List Int)):Dc:=br [] (j7 W (gg ss))
theorem Cw {α β:Type}(f:α->β->Int)(l:List α):∀m:List β,(m.map λy=>(l.map λx=>f x y).sum).sum=(l.map λx=>(m.map λy=>f x y).sum).sum
 | []=>by induction l with
  |nil=>rfl
  |cons x l ih=>rw[Ç,Û,<-ih];rfl
 |y::m=>by
  rw[Ç,Û,Cw f l m]
  induction l with
  |nil=>rfl
  |cons x l ih=>simp only[Ç,Û] at ih |-;lia
theorem o8 {α:Type}(c:Int)(f:α->Int):∀l:List α,c*(l.map f).sum=(l.map λx=>c*f x).sum
 | []=>by simp
 |x::l=>by rw[Ç,Û,Int.mul_add,o8 c f l];rfl
theorem EY {b:Int}(h:Sn n b W)(ss:List (List Int)):Nd (CT W ss)/\Ps (CT W ss)/\∀f,bh (CT W ss) f=bh W λk=>(ss.map λo=>f (aK k o)).sum:=by
 obtain⟨cn,cp,cs⟩:=Ak ss;have pos:∀p∈j7 W (gg ss),1<=p.2:=λp hp=>by
  obtain⟨o,ho,hp⟩:=ũ.mp hp;obtain⟨r,hr,rfl⟩:=Ú.mp hp
  calc (1:Int)=1*1:=rfl
   _<=r.2*o.2:=ſ (h.ps r hr) (cp o ho) (by decide) (by have:=h.ps r hr;lia)
 obtain⟨a1,a2,a3⟩:=lN _ qG.1 qG.2 pos;refine⟨a1,a2,λf=>?_⟩;unfold CT;rw[a3 f];have e1:∀C ,((j7 W C).map λp=>p.2*f p.1).sum=bh C λo=>bh W λk=>f (aK k o):=by
  intro C
  induction C with
  |nil=>rfl
  |cons o C ih=>
   unfold j7 at ih |-;rw[Ψ,ð,sum_append];show _=((o::C).map _).sum;rw[Ç];congr 1;unfold bh;rw[o8,ñ];grind[ö,Int.mul_comm,Ę]
 rw[e1,cs];have e2:bh ([]:Dc) f=0:=rfl;rw[e2,Int.zero_add];unfold bh;rw[Cw];grind[ö,o8]
theorem EZ {p:List Int×Int}(hp:p∈CT W ss):∃r∈W,∃o∈ss,p.1=aK r.1 o:=by
 rcases wD _ _ p hp with z|z
 ·cases z
 ·obtain⟨q,hq,e⟩:=Ú.mp z;obtain⟨o,ho,hq⟩:=ũ.mp hq;obtain⟨r,hr,rfl⟩:=Ú.mp hq;exact⟨r,hr,o.1,G1 ho,e.symm⟩
theorem NC {b:Int}(h:Sn n b W)(hs:Sf n ss):Sn n (b*ss.length) (CT W ss):=by
 obtain⟨a1,a2,a3⟩:=EY h ss;have l1:=hs.l1;have tt:bT (CT W ss)=bT W*ss.length:=by
  have e:∀d ,bT d=bh d λ_=>1:=λd=>by simp[bT,bh,ö,Int.mul_one]
  rw[e,a3,e];have:(ss.map λ_=>(1:Int)).sum=ss.length:=by
   clear a1 a2 a3 l1 hs
   induction ss with
   |nil=>rfl
   |cons _ ss ih=>grind
  simp_all[bh,Int.mul_comm,o8,ö,Int.mul_one]
 have t1:=h.t0;refine⟨λe=>?_,a1,a2,λp hp=>?_,Int.mul_pos h.b0 (by lia),by rw[tt];exact Ϝ h.le (by lia)⟩
 ·rw[e] at tt;have:=by
   calc (1:Int)=1*1:=rfl
    _<=bT W*ss.length:=ſ t1 (by lia) (by decide) (by lia)
  have:bT ([]:Dc)=0:=rfl;lia
 ·obtain⟨r,hr,o,ho,e⟩:=EZ hp;rw[e];unfold aK;rw[Ê];exact GY (hs.o o ho)
theorem yK {x y q:U}{t:Tr}{b:Int}(h:Sn n b W)(hb:b*ss.length<=880000)(hs:Sf n ss):dC [gw (.tup [x,y,q]) t b W,SU ss]=.ok (gw q t (b*ss.length) (CT W ss)):=by
 have h1:=d7 h.ps;have h2:=h.le;have l2:=hs.l2;have w1:((W.length*ss.length:Nat):Int)<=b*ss.length:=by
  rw[Int.natCast_mul];exact Ϝ (by lia) (by lia)
 have sp:=Jv h.ne h.ln hs (by lia);have c:jb b (ss.length:Nat)=Z:=mN (by lia) (by lia);have lS:gF [SU ss]=.ok (.int (ss.length:Nat)):=by unfold SU;rw[D5,Ê]
 unfold dC gr;simp only[Pzz,fB,NA,xA,Qr,UK,Qs,lS,c,sp];rfl
def UL {q:U}{t:Tr}{b:Int}(h:Sn n b W)(hb:b*1<=880000){o:List Int}(hs:Sf n [o]):aF [gw (.tup [.str "lay",rowU o,q]) t b W]=.ok (.lst [gw q t (b*1) (CT W [o])]):=by
 have z:=yK (ss:=[o]) (x:=.str "lay") (y:=rowU o) (q:=q) (t:=t) h hb hs;have e:SU [o]=.tup [rowU o]:=rfl;rw[e] at z;unfold aF bY;simp only[Pzz,fB,Nat.reduceAdd,xA,z];rfl
def UM {q:U}{t:Tr}{b:Int}(h:Sn n b W)(hb:b*ss.length<=880000)(hs:Sf n ss):aF [gw (.tup [.str "mix",SU ss,q]) t b W]=.ok (.lst [gw q t (b*ss.length) (CT W ss)]):=by
 have z:=yK (x:=.str "mix") (y:=SU ss) (q:=q) (t:=t) h hb hs;have d1:(("mix":Str)=="lay")=M:=by decide
 unfold aF bY;simp only[Pzz,fB,xA,z,d1,id];rfl
def UN {x:U}{t:Tr}{b:Int}:aF [gw (.tup [.str "end",x]) t b W]=.ok (.lst []):=by
 rfl
def ND {t:Tr}{b:Int}:aF [gw (.tup [.str "again"]) t b W]=.ok (.lst []):=by
 rfl
variable {t:Hc.Tr}
def UO:Gu i sg g B=SR.of (g (B.set i L)) λx=>SR.of (sg x.1 (B.set i L)) λB2=>.nx (B2.set i (B[i]?.getD L)):=nr rfl
def gY (s1 s2:Ev->SR)(B:Ev)(k:U):Option (Option U)->SR
 |some (J (.dct ks us))=>if fE k=Z then (if (bR ks us k).isSome=Z then s2 B else s1 B) else .stk
 |_=>.stk
def Sj {s1 s2:Ev->SR}:Mp i gk s1 s2 B=SR.of (gk (B.set i L)) λk=>gY s1 s2 B k.1 B[i]? := nr rfl
def peB (i m:Nat)(B:Ev)(k:U):Option (Option U)->SR
 |some (J (.dct ks us))=>if fE k=Z/\us.length<Å then (match bR ks us k with
  |none=>.nx (B.set i (J (.dct (cq ks k) (bS ks us k (PD m)))))
  |some _=>.stk) else .stk
 |_=>.stk
def UP:BX i m gk B=SR.of (gk (B.set i L)) λk=>peB i m B k.1 B[i]? := nr rfl
def piB (i:Nat)(B:Ev)(k w:U)(F:U->U):U->SR:=λd=>match w,d with
 | .int w,.dct ks us=>if fE k=Z/\us.length<Å then .nx (B.set i (J (F (.dct (cq ks k) (bS ks us k (.int w)))))) else .stk
 |_,_=>.stk
def UQ {gp:Ev->R (U×(U->U))}{gv:Ev->R (U×Ev)}:Gv i gp gk gv B=SR.of (gv (B.set i L)) λy=>SR.of (gp B) λx=>SR.of (gk (B.set i L)) λk=>piB i B k.1 y.1 x.2 x.1:=nr rfl
def pkB (k:U)(F:U->U):U->R (U×(U->U))
 | .dct ks us=>if fE k=Z then (match bR ks us k with
  |some z=>.ok (z,λw=>F (.dct (cq ks k) (bS ks us k w)))
  |none=>.stk) else .stk
 |_=>.stk
def X7 {gp:Ev->R (U×(U->U))}:Mo i gp gk B=(gp B).bind λx=>(gk (B.set i L)).bind λk=>pkB k.1 x.2 x.1:=nr rfl
noncomputable def rtB:Option (Option U)->R (U×(U->U))
 |some (J u)=>.ok (u,id)
 |_=>.stk
def UR:BR i B=rtB B[i]? := nr rfl
def X8:rtB (J (J u))=.ok (u,id):=nr rfl
def Sk:Ev->SR:=(aJ (Gu 1 (bo 4) (bq 2 eQ (ag (ah 2) (ag (aS cv (gT (bL "plan") (ah 0)) (gC (.int 1))) ar))))
 (aJ (Mp 1 (ah 4) (BX 1 3 (ah 4)) cA)
 (Gv 1 (Mo 1 (BR 1) (ah 4)) (ah 2) (ah 3))))
theorem Cy (ks:List (List Int))(s:List Int):s∈eB ks s:=by
 grind[eB]
def Jw (ks:List (List Int))(s:List Int):eB (eB ks s) s=eB ks s:=h_ (Cy ks s)
theorem Qv {x y q:U}{b:Int}{ps k:List Int}{w:Int}{ks:List (List Int)}{vf:List Int->U}{pt:Dc}{o4:Option U}(hp:∀i∈ps,0<=i/\i<k.length)(hl:ps.length<=1000)(kl:ks.length<1000000)(pl:pt.length<1000000)(h1:aK k ps∈ks->vf (aK k ps)=DU pt)(h2:aK k ps∉ks->pt=[]) :
  Sk [J (gw (.tup [x,rowU ps,q]) t b W),J (.dct (ks.map rowU) (ks.map vf)),J (rowU k),J (.int w),o4,o5] =
   .nx [J (gw (.tup [x,rowU ps,q]) t b W),J (.dct ((eB ks (aK k ps)).map rowU) ((eB ks (aK k ps)).map λs=>if s=aK k ps then DU (j_ pt k w) else vf s)),J (rowU k),J (.int w),J (rowU (aK k ps)),o5]:=by
 have sz:Å=16777216:=rfl;have ca:=wx hp hl;have ik:=jl (aK k ps);have mid:(Mp 1 (ah 4) (BX 1 3 (ah 4)) cA) [J (gw (.tup [x,rowU ps,q]) t b W),J (.dct (ks.map rowU) (ks.map vf)),J (rowU k),J (.int w),J (rowU (aK k ps)),o5]=.nx [J (gw (.tup [x,rowU ps,q]) t b W),J (.dct ((eB ks (aK k ps)).map rowU) ((eB ks (aK k ps)).map λs=>if s=aK k ps then DU pt else vf s)),J (rowU k),J (.int w),J (rowU (aK k ps)),o5]:=by
  by_cases c:aK k ps∈ks
  ·have d:(bR (ks.map rowU) (ks.map vf) (rowU (aK k ps))).isSome=Z:=by rw[wA,h_ c];rfl
   have e:eB ks _=ks:=h_ c;have e2:(ks.map λs=>if s=aK k ps then DU pt else vf s)=ks.map vf:=ö λs _=>by
    lia
   rw[e,e2];simp only[Pzz,Sj,gY,ik,d]
  ·have d:bR (ks.map rowU) (ks.map vf) (rowU (aK k ps))=L:=by rw[wA,hZ c]
   have l:(ks.map vf).length<Å:=by rw[Ê];lia
   have ep:PD 3=DU pt:=by rw[h2 c];rfl
   simp only[Pzz,Sj,gY,ik,d,Option.isSome_none,UP,peB,l,and_self,GZ,G0,ep]
 have e3:bR ((eB ks (aK k ps)).map rowU) ((eB ks (aK k ps)).map λs=>if s=aK k ps then DU pt else vf s) (rowU (aK k ps))=J (DU pt):=by
  rw[wA,h_ (Cy _ _),h_ rfl]
 have ik2:=jl k;have l2:(AH pt).length<Å:=by unfold AH;rw[Ê];lia
 have e4:piB 1 [J (gw (.tup [x,rowU ps,q]) t b W),J (.dct ((eB ks (aK k ps)).map rowU) ((eB ks (aK k ps)).map λs=>if s=aK k ps then DU pt else vf s)),J (rowU k),J (.int w),J (rowU (aK k ps)),o5] (rowU k) (.int w) (λw=>id (.dct (cq ((eB ks (aK k ps)).map rowU) (rowU (aK k ps))) (bS ((eB ks (aK k ps)).map rowU) ((eB ks (aK k ps)).map λs=>if s=aK k ps then DU pt else vf s) (rowU (aK k ps)) w))) (DU pt)=.nx [J (gw (.tup [x,rowU ps,q]) t b W),J (.dct ((eB ks (aK k ps)).map rowU) ((eB ks (aK k ps)).map λs=>if s=aK k ps then DU (j_ pt k w) else vf s)),J (rowU k),J (.int w),J (rowU (aK k ps)),o5]:=by
  rw[XW];unfold piB;dsimp only;rw[h_ ⟨ik2,l2⟩,Nj pt k w,Nl,GZ,G0,Jw];show SR.nx [_,J (.dct _ _),_,_,_,_]=SR.nx _;congr 6;funext s;by_cases z:s=aK k ps
  ·rw[h_ z,h_ z];rfl
  lia
 unfold Sk;simp only[Pzz,UO,xA,ca,mid,UQ,X7,UR,X8,pkB,ik,e3,e4]
def bj (W:Dc)(ps:List Int):List (List Int):=Cv (W.map λp=>aK p.1 ps)
def bG (W:Dc)(ps s:List Int):Dc:=W.filter λp=>decide (aK p.1 ps=s)
def E3 (W:Dc)(p:List Int×Int)(ps:List Int):bj (W++[p]) ps=eB (bj W ps) (aK p.1 ps):=by
 unfold bj Cv;simp
def jn {ps s:List Int}:s∈bj W ps↔∃p∈W,aK p.1 ps=s:=by
 simp[bj,Cv,yJ]
def E4 (W:Dc)(p:List Int×Int)(ps s:List Int):bG (W++[p]) ps s=bG W ps s++if aK p.1 ps=s then [p] else []:=by
 unfold bG;grind
theorem Qw {x q:U}{b:Int}{ps:List Int}(nd:Nd W)(ln:∀p∈W,p.1.length=n)(wl:W.length<1000000)(hp:∀i∈ps,0<=i/\i<n)(hl:ps.length<=1000){V:Dc}{o2 o3 o4:Option U} :
  ∃o2' o3' o4',BQ 1 (cg 2 (aD (bo 2) (aD (bo 3) bO))) Sk (W.map Np) [J (gw (.tup [x,rowU ps,q]) t b V),J (.dct [] []),o2,o3,o4,o5] =
   .nx [J (gw (.tup [x,rowU ps,q]) t b V),J (.dct ((bj W ps).map rowU) ((bj W ps).map λs=>DU (bG W ps s))),o2',o3',o4',o5]:=by
 obtain⟨B,e,o2',o3',o4',rfl⟩:=Ny (i:=1) (sg:=cg 2 (aD (bo 2) (aD (bo 3) bO)))
  (λi B=>∃o2 o3 o4,B=[J (gw (.tup [x,rowU ps,q]) t b V),J (.dct ((bj (W.take i) ps).map rowU) ((bj (W.take i) ps).map λs=>DU (bG (W.take i) ps s))),o2,o3,o4,o5])
  (λi u B hu h00=>by
   obtain⟨o2,o3,o4,hr⟩:=h00;subst hr;have hi:i<W.length:=by have:=(é.mp hu).1;rwa [Ê] at this
   rw[ç,á hi] at hu;obtain rfl:Np W[i]=u:=by injection hu
   have el:=ln _ (ĩ hi);have tl:(W.take i).length<=W.length:=by rw[ŝ];lia
   have kl:(bj (W.take i) ps).length<1000000:=by
    have:=wC ((W.take i).map λp=>aK p.1 ps) [];rw[Ê] at this;unfold bj Cv;simp only[ł] at this;lia
   have pl:=by
    have:=List.length_filter_le (λp:List Int×Int=>decide (aK p.1 ps=aK W[i].1 ps)) (W.take i);exact η (ą this tl) wl
   have st:=Qv (x:=x) (y:=x) (q:=q) (t:=t) (b:=b) (W:=V) (w:=W[i].2) (vf:=λs=>DU _) (pt:=bG _ ps _) (o4:=o4) (o5:=o5)
    (λj hj=>by rw[el];exact hp j hj) hl kl pl (λ_=>rfl) (λc=>by
     unfold bG;rw[List.filter_eq_nil_iff];intro p hp e;exact c (jn.mpr ⟨p,hp,of_decide_eq_true e⟩))
   have nk:W[i].1∉(bG _ ps (aK W[i].1 ps)).map (·.1):=λz=>by
    obtain⟨p,hp,e⟩:=Ú.mp z;have hp:=(List.mem_filter.mp hp).1;have nd':=nd;unfold Nd at nd';rw[<-List.take_append_drop i W,ð,Ĳ] at nd';refine nd'.2.2 p.1 (ÿ hp) W[i].1 (ÿ ?_) e;rw[Ķ hi];exact Ï
   have pn:j_ _ W[i].1 W[i].2=bG _ ps _++[W[i]]:=hZ nk;rw[pn] at st;have tk:=ŀ hi;refine⟨_,_,VL,?_,J (rowU W[i].1),J (.int W[i].2),J (rowU (aK W[i].1 ps)),rfl⟩;show Sk [J _,J _,J _,J _,o4,o5]=_;rw[st,tk,E3];congr 5;refine ö λs _=>?_;rw[E4];grind)
  ⟨_,_,_,rfl⟩
 rw[Ê,Ĺ] at e;exact⟨o2',o3',o4',e⟩
theorem Cz:∀(rest done:List (List Int×U)),((done++rest).map (·.1)).Nodup->Eb (done.map λw=>rowU w.1) (done.map (·.2)) (rest.map zz)=J ((done++rest).map (λw=>rowU w.1),(done++rest).map (·.2))
 | [],done,_=>by rw[Ĝ];rfl
 |w::rest,done,nd=>by
  have n1:rowU w.1∉done.map _:=λz=>by
   obtain⟨p,hp,e⟩:=Ú.mp z;rw[ð,Ĳ] at nd;exact nd.2.2 p.1 (ÿ hp) w.1 Ï (dG.mp e)
  have ih:=Cz rest (done++[w]) (by rw[Ĩ];exact nd);rw[Ç];unfold zz Eb;rw[h_ (jl _)];unfold cq bS;rw[hZ n1,hZ n1];rw[ð,ð,Ĩ] at ih;exact ih
theorem NF (h:ws≠[])(l:ws.length<=1000)(nd:(ws.map (·.1)).Nodup):qc [.tup (ws.map zz)]=.ok (.dct (ws.map λw=>rowU w.1) (ws.map (·.2))):=by
 have e:=Cz ws [] nd;unfold qc;grind
noncomputable def wF (ws:List (List Int×U))(s:List Int):U:=((ws.find? λw=>decide (w.1=s)).map (·.2)).getD .non
theorem wG (s:List Int):∀ws:List (List Int×U),s∈ws.map (·.1)->bR (ws.map λw=>rowU w.1) (ws.map (·.2)) (rowU s)=J (wF ws s)
 | [],h=>by cases h
 |w::ws,h=>by
  rw[Ç,Ç];unfold bR wF;rw[Ŝ];by_cases c:w.1=s
  ·rw[h_ (by rw[c]),hJ c];rfl
  ·rw[hZ (λz=>c (dG.mp z)),hV c];have h':s∈ws.map (·.1):=by
    grind
   exact wG s ws h'
theorem aan (ks:List (List Int)):(ks.map rowU).all Ik=Z:=ì.mpr λu hu=>by obtain⟨k,_,rfl⟩:=Ú.mp hu;rfl
def CA (ks:List (List Int))(k:List Int):jd (ks.map rowU) (rowU k)=Z:=by unfold jd;rw[jl,aan];simp
theorem X9 {ks:List (List Int)}(h:ks≠[]):wkB (.dct (ks.map rowU) us) B=.ok (ks.map rowU,B):=h_ (by
 unfold rJ;rw[ß];refine⟨by simp[*],ì.mpr λu hu=>?_⟩;obtain⟨k,_,rfl⟩:=Ú.mp hu;rfl)
theorem Qx {b:Int}{ps:List Int}(h:Sn n b W)(hb:b<=900000)(hp:∀i∈ps,0<=i/\i<n)(hl:ps.length<=1000)(wl:ws.length<=1000)(nd:(ws.map (·.1)).Nodup)(tl:t.length<=1000)(hw:∀s∈bj W ps,s∈ws.map (·.1)) :
  aF [gw (.tup [.str "look",rowU ps,.tup (ws.map zz)]) t b W]=.ok (.lst ((bj W ps).map λs=>gw (wF ws s) (t++[s]) b (bG W ps s))):=by
 have sz:Å=16777216:=rfl;have w1:=d7 h.ps;have w2:=h.le;have abn:W.length<1000000:=by lia
 have kne:bj W ps≠[]:=λe=>by
  cases hW:W with
  |nil=>exact h.ne hW
  |cons p W'=>
   have:aK p.1 ps∈bj W ps:=jn.mpr ⟨p,by rw[hW];exact Ï,rfl⟩;grind
 have wne:ws≠[]:=λe=>by
  cases hk:bj W ps with
  |nil=>exact kne hk
  |cons s _=>
   have:=hw s (by rw[hk];exact Ï);grind
 have kl:(bj W ps).length<1000000:=by
  have:=wC (W.map λp=>aK p.1 ps) [];rw[Ê] at this;unfold bj Cv;grind
 obtain⟨o2,o3,o4,pk⟩:=Qw (n:=n) (x:=.str "look") (q:=.tup (ws.map zz)) (t:=t) (b:=b) h.nd h.ln abn hp hl (V:=W) (o2:=L) (o3:=L) (o4:=L) (o5:=L);have di:=NF wne wl nd;have fw:∀s:List Int,jd (ws.map λw=>rowU w.1) (rowU s)=Z:=λs=>by
  have:=CA (ws.map (·.1)) s
  rwa [ñ] at this
 obtain⟨B,e5,o4',rfl⟩:=cw (us:=(bj W ps).map rowU) (sg:=bo 4) (s:=fm)
  (λi B=>∃o4,B=[J (gw (.tup [.str "look",rowU ps,.tup (ws.map zz)]) t b W),J (.dct ((bj W ps).map rowU) ((bj W ps).map λs=>DU (bG W ps s))),o2,o3,o4,J (.dct (ws.map λw=>rowU w.1) (ws.map (·.2)))])
  (λi u B hu h00=>by
   obtain⟨o4,hr⟩:=h00;subst hr;obtain⟨s,hs,rfl⟩:=Ú.mp (Ċ hu);have dg:=wG s ws (hw s hs);have dn:KW not (rowU s) (.dct (ws.map λw=>rowU w.1) (ws.map (·.2)))=.ok (.bl M):=by
    simp_all[KW,h_]
   refine⟨_,_,uM,.inl ?_,J (rowU s),rfl⟩;simp_all[fm,Pzz,fB,Nat.reduceAdd,Nat.reduceSub])
  (B:=[J (gw (.tup [.str "look",rowU ps,.tup (ws.map zz)]) t b W),J (.dct ((bj W ps).map rowU) ((bj W ps).map λs=>DU (bG W ps s))),o2,o3,o4,J (.dct (ws.map λw=>rowU w.1) (ws.map (·.2)))]) ⟨_,rfl⟩
 have el:=jm (f:=HZ [L,J 5,J 0,J 1] (bo 0) dN (zo ["plan","trace","bottom","weights"] (ag (aS gj (ah 1) (ah 0)) (ag (aS dk (gT (bL "trace") (ah 2)) (aU (ag (ah 0) ar))) (ag (gT (bL "bottom") (ah 2)) (ag (aS gj (ah 3) (ah 0)) ar))))) [J (gw (.tup [.str "look",rowU ps,.tup (ws.map zz)]) t b W),J (.dct ((bj W ps).map rowU) ((bj W ps).map λs=>DU (bG W ps s))),o2,o3,o4',J (.dct (ws.map λw=>rowU w.1) (ws.map (·.2)))]) (c:=rowU) (g:=λs=>gw (wF ws s) (t++[s]) b (bG W ps s)) (xs:=bj W ps) λs hs=>by
  have d1:gj (.dct (ws.map λw=>rowU w.1) (ws.map (·.2))) (rowU s)=.ok (wF ws s):=by
   unfold gj;dsimp only;rw[h_ (fw s),wG s ws (hw s hs)]
  have d2:gj (.dct ((bj W ps).map rowU) ((bj W ps).map λs=>DU (bG W ps s))) (rowU s)=.ok (DU (bG W ps s)):=by
   simp_all[gj,h_,CA,wA]
  have d3:dk (trU t) (.tup [rowU s])=.ok (trU (t++[s])):=by
   unfold trU;rw[D3,h_ (by rw[Ê,Ŋ];lia),ð];rfl
  simp only[Pzz,fB,Nat.reduceAdd,Nat.reduceSub,NA,d1,d2,d3,Qr,UK];rfl
 have lz:((bj W ps).map λs=>gw (wF ws s) (t++[s]) b (bG W ps s)).length<=Å:=by rw[Ê];lia
 have bk:fV [gw (.tup [.str "look",rowU ps,.tup (ws.map zz)]) t b W]=.ok (.lst ((bj W ps).map λs=>gw (wF ws s) (t++[s]) b (bG W ps s))):=by
  have pk':yy 1 (vt 1 (LW (gT (bL "weights") (ah 0))) (cg 2 (aD (bo 2) (aD (bo 3) bO))) Sk) [J (gw (.tup [.str "look",rowU ps,.tup (ws.map zz)]) t b W),J (.dct [] []),L,L,L,L]=.nx [J (gw (.tup [.str "look",rowU ps,.tup (ws.map zz)]) t b W),J (.dct ((bj W ps).map rowU) ((bj W ps).map λs=>DU (bG W ps s))),o2,o3,o4,L]:=by
   have e1:vt 1 (LW (gT (bL "weights") (ah 0))) (cg 2 (aD (bo 2) (aD (bo 3) bO))) Sk [J (gw (.tup [.str "look",rowU ps,.tup (ws.map zz)]) t b W),J (.dct [] []),L,L,L,L]=.nx [J (gw (.tup [.str "look",rowU ps,.tup (ws.map zz)]) t b W),J (.dct ((bj W ps).map rowU) ((bj W ps).map λs=>DU (bG W ps s))),o2,o3,o4,L]:=by
    have gi:LW (gT (bL "weights") (ah 0)) [J (gw (.tup [.str "look",rowU ps,.tup (ws.map zz)]) t b W),L,L,L,L,L]=.ok (W.map Np,[J (gw (.tup [.str "look",rowU ps,.tup (ws.map zz)]) t b W),L,L,L,L,L]):=by
     simp only[Pzz,fB,Nat.reduceAdd,Nat.reduceSub,Ql,Qs,tU h.ne]
    unfold vt;show SR.of (LW _ [_,L,L,L,L,L]) _=_;rw[gi];exact pk
   grind[yy,vt,Sk]
  have be:iU=(aJ (ba 1 Pf) (aJ (yy 1 (vt 1 (LW (gT (bL "weights") (ah 0))) (cg 2 (aD (bo 2) (aD (bo 3) bO))) Sk)) (vi 1 (aJ (ba 5 (iA qc (ag (aS cv (gT (bL "plan") (ah 0)) (gC (.int 2))) ar)))
 (aJ (ff (VG (ah 1)) (bo 4)
 fm)
 (bb (fL (VG (ah 1)) [L,J 5,J 0,J 1] (bo 0) dN (zo ["plan","trace","bottom","weights"] (ag (aS gj (ah 1) (ah 0)) (ag (aS dk (gT (bL "trace") (ah 2)) (aU (ag (ah 0) ar))) (ag (gT (bL "bottom") (ah 2)) (ag (aS gj (ah 3) (ah 0)) ar)))))))))))):=rfl
  unfold fV;rw[be];simp only[Pzz,fB,Nat.reduceAdd,Nat.reduceSub,pk',Nq,xA,di,aaj,X9 kne,e5,el,lz,Nr]
 have d1:(("look":Str)=="lay")=M:=by decide
 have d2:(("look":Str)=="mix")=M:=by decide
 have d3:(("look":Str)=="look")=Z:=by decide
 unfold aF bY;simp_all[Pzz,fB,Nat.reduceAdd,Nat.reduceSub,xA,id]
inductive Kd where
 |fin (r:List Int)
 |aga
 |lay
 |mix
 |look
noncomputable def Kd.ix:Kd->Nat
 | .fin _=>0
 | .lay=>1
 | .mix=>2
 | .look=>3
 | .aga=>4
abbrev Pa:=Tr×Kd×Int
inductive Wk (n:Nat)(c:Int):Nat->Nat->U->(List Int->Prop)->(List Int->List Pa)->Prop
 |fin {h:Nat} {ps:List Int} {S:List Int->Prop}:(∀i∈ps,0<=i/\i<n)->ps≠[]->ps.length<=1000->Wk n c h 1 (.tup [.str "end",rowU ps]) S λr=>[([],.fin (aK r ps),1)]
 |aga {h:Nat} {S:List Int->Prop}:Wk n c h 1 (.tup [.str "again"]) S λ_=>[([],.aga,1)]
 |lay {h z:Nat} {o:List Int} {q:U} {S S':List Int->Prop} {Lk:List Int->List Pa}:Sf n [o]->Wk n c h z q S' Lk->(∀r,S r->S' (aK r o))->Wk n c h (z+1) (.tup [.str "lay",rowU o,q]) S λr=>([],.lay,1)::Lk (aK r o)
 |mix {h z:Nat} {os:List (List Int)} {q:U} {S S':List Int->Prop} {Lk:List Int->List Pa}:Sf n os->(os.length:Int) ∣ c->Wk n c h z q S' Lk->(∀r,S r->∀o∈os,S' (aK r o))->
   Wk n c (h+1) (z+1) (.tup [.str "mix",SU os,q]) S λr=>([],.mix,1)::os.flatMap λo=>(Lk (aK r o)).map λx=>(x.1,x.2.1,x.2.2*os.length)
 |look {h z:Nat} {ps:List Int} {ws:List (List Int×U)} {S:List Int->Prop} {ZQ:List Int->Nat} {Lk:List Int->List Int->List Pa}:(∀i∈ps,0<=i/\i<n)->ps.length<=1000->ws.length<=1000->(ws.map (·.1)).Nodup->(∀r,S r->aK r ps∈ws.map (·.1))->
   (∀w∈ws,Wk n c h (ZQ w.1) w.2 (λr=>S r/\aK r ps=w.1) (Lk w.1))->z=1+((ws.map (·.1)).map ZQ).sum->Wk n c h z (.tup [.str "look",rowU ps,.tup (ws.map zz)]) S λr=>([],.look,1)::(Lk (aK r ps) r).map λx=>(aK r ps::x.1,x.2)
abbrev En:=Tr×Int×List Int×Dc
def wR (e:En):U:=gw (.tup [.str "end",rowU e.2.2.1]) e.1 e.2.1 e.2.2.2
noncomputable def pv (D b:Int)(t:Tr)(g:Tr->Kd->Int)(Lk:List Pa):Int:=(Lk.map λx=>D / (b*x.2.2)*g (t++x.1) x.2.1).sum
def NG (D:Int)(g:Tr->List Int->Int)(e:En):Int:=bh e.2.2.2 λk=>D / e.2.1*g e.1 (aK k e.2.2.1)
noncomputable def fg (g:Tr->List Int->Int):Tr->Kd->Int:=λt k=>match k with
 | .fin r=>g t r
 |_=>0
noncomputable def ind (i:Nat):Tr->Kd->Int:=λ_ k=>if k.ix=i then 1 else 0
structure As (n:Nat)(D:Int)(t:Tr)(E:List En):Prop where
 el:∀e∈E,Sn n e.2.1 e.2.2.2/\e.2.1 ∣ D/\e.2.1<=880000/\(∀i∈e.2.2.1,0<=i/\i<n)/\e.2.2.1≠[]/\e.2.2.1.length<=1000/\(∃u,e.1=t++u)/\e.1.length<=900
 nd:(E.map (·.1)).Nodup
def AI (D:Int)(Mqq:Nat->Int):List U:=(ā 5).map λi=>i5 (bE (Mqq i) D)
def dA {f g:List Int->Int}(h:∀p∈W,f p.1=g p.1):bh W f=bh W g:=by
 unfold bh;congr 1;exact ö λp hp=>by rw[h p hp]
theorem Jx (W:Dc)(f g:List Int->Int):bh W (λk=>f k+g k)=bh W f+bh W g:=by
 unfold bh
 induction W with
 |nil=>rfl
 |cons p W ih=>rw[Ç,Ç,Ç,Û,Û,Û,ih,Int.mul_add];lia
def d8 (W:Dc)(c:Int):bh W (λ_=>c)=bT W*c:=by
 unfold bh bT;rw[Int.mul_comm,o8];congr 1;exact ö λp _=>Int.mul_comm _ _
theorem Qy {f:List Int->Int}(hp:Ps W)(h:∀p∈W,0<=f p.1):0<=bh W f:=by
 have:∀l:List Int,(∀x∈l,0<=x)->0<=l.sum:=by
  intro l
  induction l with
  |nil=>simp
  |cons x l ih=>exact λh=>by rw[Û];have:=h x Ï;have:=ih λy hy=>h y (Ö _ hy);lia
 refine this _ λx hx=>?_;obtain⟨p,Aw,rfl⟩:=Ú.mp hx;exact Int.mul_nonneg (by have:=hp p Aw;lia) (h p Aw)
theorem NH {D b:Int}(hD:0<D)(hb:0<b){t:Tr}{i:Nat}:∀{Lk:List Pa},(∀x∈Lk,0<x.2.2)->0<=pv D b t (ind i) Lk
 | [],_=>Ľ _
 |x::Lk,h=>by
  have a:=NH (t:=t) (i:=i) hD hb λy hy=>h y (Ö _ hy);unfold pv at a |-;rw[Ç,Û];have:0<=D / (b*x.2.2)*ind i (t++x.1) x.2.1:=Int.mul_nonneg (Int.ediv_nonneg (by lia) (Int.le_of_lt (Int.mul_pos hb (h x Ï)))) (by unfold ind;split<;>decide);lia
theorem Wk.pos {h:Nat}{Lk:List Int->List Pa}(H:Wk n c h z p S Lk):∀r,S r->∀x∈Lk r,0<x.2.2:=by
 induction H with
 |fin=>simp
 |aga=>simp
 |lay _ _ hS ih=>
  intro r hr x hx;rcases Ø.mp hx with rfl|hx
  ·decide
  ·exact ih _ (hS r hr) x hx
 |mix hs _ _ hS ih=>
  intro r hr x hx;rcases Ø.mp hx with rfl|hx
  ·decide
  ·obtain⟨o,ho,hx⟩:=ũ.mp hx;obtain⟨y,hy,rfl⟩:=Ú.mp hx;exact Int.mul_pos (ih _ (hS r hr o ho) y hy) (by grind)
 |look _ _ _ _ hk _ _ ih=>
  intro r hr x hx;rcases Ø.mp hx with rfl|hx
  ·decide
  ·obtain⟨y,hy,rfl⟩:=Ú.mp hx;obtain⟨w,hw,e⟩:=Ú.mp (hk r hr);rw[<-e] at hy;exact ih w hw r ⟨hr,e.symm⟩ y hy
theorem Wk.z1 {h:Nat}{Lk:List Int->List Pa}(H:Wk n c h z p S Lk):1<=z:=by cases H<;>lia
def cW (D b:Int)(t:Tr)(g:Tr->Kd->Int)(k:Kd)(Lk:List Pa):pv D b t g (([],k,1)::Lk)=D / b*g t k+pv D b t g Lk:=by
 unfold pv;simp
theorem G2 {f:Str}{r:List U}{i0:Nat}{b D:Int}{Ss:List U}(hf:IX.findIdx? (·==f)=J i0)(hi:i0<5)(hs:Sn n b W)(hb:b<=880000)(hD:0<D)(yQ:D<=10000000)(hd:b ∣ D)(fs:aF [gw (.tup (.str f::r)) t b W]=.ok (.lst Ss))(k:Nat)(ws es:List U)(Mqq:Nat->Int)(hM:∀i,0<=Mqq i)(l1:ws.length+Ss.length<9500)(l2:es.length<9500) :
  vD a8 cE aF (k+1) (ws++[gw (.tup (.str f::r)) t b W]) es (AI D Mqq)=vD a8 cE aF k (ws++Ss) (if f="end" then es++[gw (.tup (.str f::r)) t b W] else es) (AI D λi=>Mqq i+if i=i0 then bT W*(D / b) else 0):=by
 have t1:=hs.t0;have ch:=qI (p:=.tup (.str f::r)) (t:=t) hs (by lia);have pl:=Qt (y:=bT W) hD yQ (hM i0) (by lia) hs.b0 hd;have e1:(ws++[gw (.tup (.str f::r)) t b W])[(ws++[gw (.tup (.str f::r)) t b W]).length-1]? = J (gw (.tup (.str f::r)) t b W):=by
  simp
 have e2:(AI D Mqq)[i0]? = J (i5 (bE (Mqq i0) D)):=by
  unfold AI;rw[ç,ϗ hi];rfl
 have e3:(AI D Mqq).set i0 (i5 (bE (Mqq i0+bT W*(D / b)) D))=AI D λi=>Mqq i+if i=i0 then bT W*(D / b) else 0:=by
  unfold AI;apply Φ;intro j;rw[List.getElem?_set];by_cases c:i0=j
  ·subst c;rw[h_ rfl,h_ (by exact hi),ç,ϗ hi];show _=J (i5 (bE (Mqq i0+if i0=i0 then _ else _) D));rw[h_ rfl]
  ·rw[hZ c];by_cases hj:j<5
   ·rw[ç,ç,ϗ hj];show _=J (i5 (bE (Mqq j+if j=i0 then _ else _) D));rw[hZ (λz=>c z.symm),Int.add_zero];rfl
   ·rw[Ÿ (by rw[Ê,Ş];lia),Ÿ (by rw[Ê,Ş];lia)]
 have e4:(ws++[gw (.tup (.str f::r)) t b W]).dropLast=ws:=by simp
 have pz:cv (.tup (.str f::r)) (.int 0)=.ok (.str f):=by rw[LB,LM];rfl
 conv=>lhs;unfold vD
 rw[e1];simp only[xA,D1,pz,hf,ch,e2,pl,fs,e3,e4];rw[h_ ⟨by rw[ã,Ŋ];lia,by lia⟩]
variable {Lk:List Int->List Hc.Pa}{L1 L2:List Hc.Pa}
theorem CB {ps:List Int}(f:List Int->Int):∀{W:Dc} {K:List (List Int)},K.Nodup->(∀p∈W,aK p.1 ps∈K)->(K.map λs=>bh (bG W ps s) f).sum=bh W f
 | [],K,_,_=>by
  have:∀K:List _,(K.map λs=>bh (bG [] ps s) f).sum=0:=by
   intro K
   induction K with
   |nil=>rfl
   |cons s K ih=>rw[Ç,Û,ih];rfl
  exact this K
 |p::W,K,nd,h=>by
  have ih:=CB f nd λq hq=>h q (Ö _ hq);have e:∀s,bh (bG (p::W) ps s) f=(if aK p.1 ps=s then p.2*f p.1 else 0)+bh (bG W ps s) f:=λs=>by
   unfold bG;by_cases c:aK p.1 ps=s
   ·rw[List.filter_cons_of_pos (by lia),h_ c];rfl
   ·rw[List.filter_cons_of_neg (by simpa using c),hZ c,Int.zero_add]
  have e2:∀K:List _,(K.map λs=>bh (bG (p::W) ps s) f).sum=(K.map λs=>if aK p.1 ps=s then p.2*f p.1 else 0).sum+(K.map λs=>bh (bG W ps s) f).sum:=by
   intro K
   induction K with
   |nil=>rfl
   |cons s K ih=>rw[Ç,Ç,Ç,Û,Û,Û,ih,e s];lia
  have e3:∀K:List _,K.Nodup->aK p.1 ps∈K->(K.map λs=>if aK p.1 ps=s then p.2*f p.1 else 0).sum=p.2*f p.1:=by
   have zero:∀K:List _,aK p.1 ps∉K->(K.map λs=>if aK p.1 ps=s then p.2*f p.1 else 0).sum=0:=by
    intro K
    induction K with
    |nil=>exact λ_=>rfl
    |cons s K ih=>
     intro hn;rw[Ø,not_or] at hn;rw[Ç,Û,hZ hn.1,ih hn.2];rfl
   intro K
   induction K with
   |nil=>simp
   |cons s K ih=>
    intro nd z;obtain⟨n1,n2⟩:=ø.mp nd;rw[Ç,Û];by_cases c:aK p.1 ps=s
    ·rw[h_ c,zero K (by rw[c];exact n1),Int.add_zero]
    ·rw[hZ c,ih n2 ((Ø.mp z).resolve_left c),Int.zero_add]
  rw[e2,e3 K nd (h p Ï),ih];rfl
theorem G4 {ZQ:List Int->Nat}:∀{l m:List (List Int)},l.Nodup->(∀s∈l,s∈m)->(l.map ZQ).sum<=(m.map ZQ).sum
 | [],_,_,_=>ė _
 |s::l,m,nd,h=>by
  obtain⟨n1,n2⟩:=ø.mp nd;have pm:=List.perm_cons_erase (h s Ï);have e:(m.map ZQ).sum=ZQ s+((m.erase s).map ZQ).sum:=by
   grind
  have ih:=G4 (ZQ:=ZQ) (m:=m.erase s) n2 λx hx=>(List.mem_erase_of_ne (λz=>n1 (by lia))).mpr (h x (Ö _ hx));grind
theorem G5 {b:Int}(h:Sn n b W){ps s:List Int}(hs:s∈bj W ps):Sn n b (bG W ps s):=by
 obtain⟨p,hp,e⟩:=jn.mp hs;have sub:∀q∈bG W ps s,q∈W:=λq hq=>(List.mem_filter.mp hq).1;refine⟨λz=>?_,?_,λq hq=>h.ps q (sub q hq),λq hq=>h.ln q (sub q hq),h.b0,?_⟩
 ·grind[bG]
 ·exact h.nd.sublist ((List.filter_sublist).map _)
 ·have:∀W ,Ps W->bT (bG W ps s)<=bT W:=by
   intro W
   induction W with
   |nil=>exact λ_=>Ľ _
   |cons q W ih=>
    intro hp;have:=ih λx hx=>hp x (Ö _ hx);have q1:=hp q Ï;unfold bG bT at this |-;rw[List.filter_cons];split
    ·rw[Ç,Ç,Û,Û];lia
    ·rw[Ç,Û];lia
  exact Int.le_trans (this W h.ps) h.le
def Y9 (n:Nat)(D:Int)(z:Nat)(t:Tr)(Ss:List U)(F:(Tr->Kd->Int)->Int):Prop:=
 ∃E:List En,As n D t E/\E.length<=z/\(∀g,(E.map (NG D g)).sum=F (fg g))/\∃j,j<=z/\∀(k:Nat) (ws es:List U) (Mqq:Nat->Int),(∀i,0<=Mqq i)->ws.length+2*z<=9000->es.length+z<=9000->
  vD a8 cE aF (j+k) (ws++Ss) es (AI D Mqq)=vD a8 cE aF k ws (es++E.map wR) (AI D λi=>Mqq i+F (ind i))
theorem CC {n:Nat}{D:Int}{t:Tr}{ZQ:List Int->Nat}{sc:List Int->U}{F:List Int->(Tr->Kd->Int)->Int}:∀(K:List (List Int)),K.Nodup->(∀s∈K,Y9 n D (ZQ s) (t++[s]) [sc s] (F s))->(∀s∈K,∀i,0<=F s (ind i))->(∀s∈K,1<=ZQ s)->
  ∃E:List En,As n D t E/\(∀e∈E,∃s∈K,∃u,e.1=t++s::u)/\E.length<=(K.map ZQ).sum/\(∀g,(E.map (NG D g)).sum=(K.map λs=>F s (fg g)).sum)/\∃j,j<=(K.map ZQ).sum/\∀(k:Nat) (ws es:List U) (Mqq:Nat->Int),(∀i,0<=Mqq i)->ws.length+2*(K.map ZQ).sum<=9000->es.length+(K.map ZQ).sum<=9000->
   vD a8 cE aF (j+k) (ws++K.map sc) es (AI D Mqq)=vD a8 cE aF k ws (es++E.map wR) (AI D λi=>Mqq i+(K.map λs=>F s (ind i)).sum)
 | [],_,_,_,_=>⟨[],⟨λe he=>(by cases he),Ģ⟩,λe he=>(by cases he),Ñ _,λg=>rfl,0,Ñ _,λk ws es Mqq _ _ _=>by simp⟩
 |s::K,nd,h,hF,hz=>by
  obtain⟨n1,n2⟩:=ø.mp nd;have z1:=hz s Ï;obtain⟨E,a1,a2,a3,a4,j,a5,a6⟩:=CC K n2 (λx hx=>h x (Ö _ hx)) (λx hx=>hF x (Ö _ hx)) (λx hx=>hz x (Ö _ hx));obtain⟨E',b1,b3,b4,j',b5,b6⟩:=h s Ï;have pre:∀e∈E',∃u,e.1=t++s::u:=λe he=>by
   obtain⟨_,_,_,_,_,_,⟨u,hu⟩,_⟩:=b1.el e he;grind
  refine⟨E++E',⟨λe he=>?_,?_⟩,λe he=>?_,?_,λg=>?_,j+j',?_,λk ws es Mqq hM l1 l2=>?_⟩
  ·rcases ı.mp he with he|he
   ·exact a1.el e he
   ·obtain⟨q1,q2,q3,q4,q5,q6,q7,q8⟩:=b1.el e he;obtain⟨u,hu⟩:=pre e he;exact⟨q1,q2,q3,q4,q5,q6,⟨s::u,hu⟩,q8⟩
  ·rw[ð,Ĳ];refine⟨a1.nd,b1.nd,λx hx y hy e=>?_⟩;obtain⟨e1,he1,rfl⟩:=Ú.mp hx;obtain⟨e2,Zk,rfl⟩:=Ú.mp hy;grind[List.append_cancel_left]
  ·grind
  ·rw[ã,Ç,Û];lia
  ·rw[ð,sum_append,a4,b4,Ç,Û];lia
  ·grind
  ·rw[Ç,Û] at l1;rw[Ç,Û] at l2;have s0:∀i,0<=Mqq i+(K.map λs=>F s (ind i)).sum:=λi=>by
    have:∀K:List _,(∀s∈K,∀i,0<=F s (ind i))->0<=(K.map λs=>F s (ind i)).sum:=by
     intro K
     induction K with
     |nil=>exact λ_=>Ľ _
     |cons x K ih=>exact λh=>by rw[Ç,Û];have:=h x Ï i;have:=ih λy hy=>h y (Ö _ hy);lia
    have:=this K λx hx=>hF x (Ö _ hx);have:=hM i;lia
   have x1:=a6 (j'+k) (ws++[sc s]) es Mqq hM (by rw[ã,Ŋ];lia) (by lia);have x2:=b6 k ws (es++E.map wR) _ s0 (by lia) (by rw[ã,Ê];lia);rw[θ];rw[Ĩ] at x1;show vD _ _ _ _ (ws++([sc s]++K.map sc)) _ _=_;rw[x1,x2,ð,Ĩ];congr 1;refine ö λi _=>?_;show i5 (bE (Mqq i+(K.map _).sum+F s (ind i)) D)=i5 (bE (Mqq i+(F s (ind i)+(K.map _).sum)) D);congr 2;lia
theorem o9 {f:Str}{r:List U}{i0:Nat}{b D:Int}{Ss:List U}{F F':(Tr->Kd->Int)->Int}(hf:IX.findIdx? (·==f)=J i0)(hi:i0<5)(hn:f≠"end")(hs:Sn n b W)(hb:b<=880000)(hD:0<D)(yQ:D<=10000000)(hd:b ∣ D)(fs:aF [gw (.tup (.str f::r)) t b W]=.ok (.lst Ss))(sl:Ss.length<=400)(hF:∀g,F' (fg g)=F (fg g))(hI:∀i,F' (ind i)=(if i=i0 then bT W*(D / b) else 0)+F (ind i))(E:List En)(a1:As n D t E)(a3:E.length<=z)(a4:∀g,(E.map (NG D g)).sum=F (fg g))(j:Nat)(a5:j<=z)(a6:∀(k:Nat) (ws es:List U) (Mqq:Nat->Int),(∀i,0<=Mqq i)->ws.length+2*z<=9000->es.length+z<=9000->vD a8 cE aF (j+k) (ws++Ss) es (AI D Mqq)=vD a8 cE aF k ws (es++E.map wR) (AI D λi=>Mqq i+F (ind i))) :
  Y9 n D (z+1) t [gw (.tup (.str f::r)) t b W] F':=by
 refine⟨E,a1,by lia,λg=>(a4 g).trans (hF g).symm,j+1,by lia,λk ws es Mqq hM l1 l2=>?_⟩;have t1:=hs.t0;have st:=G2 hf hi hs hb hD yQ hd fs (j+k) ws es Mqq hM (by lia) (by lia);rw[hZ hn] at st;have nn:∀i,0<=Mqq i+if i=i0 then bT W*(D / b) else 0:=λi=>by
  have h1:=hM i;have h2:0<=bT W*(D / b):=Int.mul_nonneg (by lia) (Int.ediv_nonneg (by lia) (by have:=hs.b0;lia));split<;>lia
 have x:=a6 k ws es _ nn (by lia) (by lia);rw[show j+1+k=j+k+1 by lia,st,x];congr 1;refine ö λi _=>?_;show i5 (bE (Mqq i+(if i=i0 then bT W*(D / b) else 0)+F (ind i)) D)=i5 (bE (Mqq i+F' (ind i)) D);rw[hI i];congr 2;lia
def yL {b:Int}{h:Nat}(b0:0<b)(hb:b*24 ^ h<=880000):b<=880000:=by
 have p:(0:Int)<24 ^ h:=Int.pow_pos (by decide);have:=Int.mul_le_mul_of_nonneg_left (show (1:Int)<=24 ^ h from p) (Int.le_of_lt b0);rw[Int.mul_one] at this;exact Int.le_trans this hb
def jo (D b:Int)(t:Tr)(g:Tr->Kd->Int)(kd:Kd)(W:Dc)(Lk:List Int->List Pa):bh W (λk=>pv D b t g (([],kd,1)::Lk k))=bT W*(D / b*g t kd)+bh W λk=>pv D b t g (Lk k):=by
 simp[d8,Jx,dA,cW]
def US (D b:Int)(t:Tr)(g:Tr->Kd->Int)(Lk L':List Pa):pv D b t g (Lk++L')=pv D b t g Lk+pv D b t g L':=by
 unfold pv;simp
theorem tV {α:Type}(D b:Int)(t:Tr)(g:Tr->Kd->Int)(f:α->List Pa):∀l:List α,pv D b t g (l.flatMap f)=(l.map λx=>pv D b t g (f x)).sum
 | []=>rfl
 |x::l=>by rw[Ψ,US,tV D b t g f l,Ç,Û]
def wH (D b m:Int)(t:Tr)(g:Tr->Kd->Int)(Lk:List Pa):pv D b t g (Lk.map λx=>(x.1,x.2.1,x.2.2*m))=pv D (b*m) t g Lk:=by
 grind[pv,ñ,ö,Int.mul_comm,Ę]
def E5 (D b:Int)(t:Tr)(g:Tr->Kd->Int)(s:List Int)(Lk:List Pa):pv D b t g (Lk.map λx=>(s::x.1,x.2))=pv D b (t++[s]) g Lk:=by
 unfold pv;rw[ñ];congr 1;refine ö λx _=>?_;rw[Ĩ];rfl
def Au (x:Int)(i j:Nat):x*(if j=i then 1 else 0)=if i=j then x else 0:=by
 lia
def lR {b D:Int}{h:Nat}(hd:b*c ^ h ∣ D):b ∣ D:=Int.dvd_trans (Int.dvd_mul_right _ _) hd
theorem walk {h:Nat}(H:Wk n c h z p S Lk):∀{t:Tr} {b D:Int} {W:Dc},Sn n b W->(∀k∈W,S k.1)->b*c ^ h ∣ D->b*24 ^ h<=880000->0<D->D<=10000000->t.length+z<=900->z<=200->Y9 n D z t [gw p t b W] λg=>bh W λk=>pv D b t g (Lk k):=by
 induction H with
 | @fin h ps S hp wV hl=>
  intro t b D W hs hS hd hb hD yQ ht hz;have b0:=hs.b0;have Oe:=yL b0 hb;have QN:=lR hd;refine⟨[(t,b,ps,W)],⟨λe he=>?_,by simp⟩,Ñ _,λg=>?_,1,Ñ _,λk ws es Mqq hM l1 l2=>?_⟩
  ·rw[Ą] at he;subst he;exact⟨hs,QN,Oe,hp,wV,hl,⟨[],(Ĝ t).symm⟩,by lia⟩
  ·show bh W _+0=_;rw[Int.add_zero];refine dA λk _=>?_;rw[cW];show _=_+0;rw[Int.add_zero];rfl
  ·have st:=G2 (i0:=0) (by decide) (by decide) hs Oe hD yQ QN (UN (x:=rowU ps) (t:=t) (b:=b) (W:=W)) k ws es Mqq hM (by simp;lia) (by lia);rw[h_ rfl,Ĝ] at st;rw[Nat.add_comm 1 k,st];congr 1;unfold AI;refine ö λi _=>?_;congr 3;dsimp only;congr 1;by_cases c:i=0
   ·subst c;rw[h_ rfl,<-d8];refine dA λk _=>?_;rw[cW];show _=D / b*1+0;lia
   ·rw[hZ c];have:bh W (λk=>pv D b t (ind i) [([],.fin (aK k ps),1)])=bh W λ_=>0:=dA λk _=>by
     rw[cW];show D / b*(if 0=i then 1 else 0)+0=0;lia
    rw[this,d8];simp
 | @aga h S=>
  intro t b D W hs hS hd hb hD yQ ht hz;have b0:=hs.b0;have Oe:=yL b0 hb;refine o9 (F:=λ_=>0) (z:=0) (i0:=4) (by decide) (by decide) (by decide) hs Oe hD yQ (lR hd) ND (ė _) (λg=>?_) (λi=>?_) [] ⟨λe he=>(by cases he),Ģ⟩ (Ñ _) (λg=>rfl) 0 (Ñ _) (λk ws es Mqq _ _ _=>by simp)
  ·have:bh W (λk=>pv D b t (fg g) [([],.aga,1)])=bh W λ_=>0:=dA λk _=>by
    rw[cW];show D / b*0+0=0;simp
   show bh W _=_;rw[this,d8];simp
  ·have:bh W (λk=>pv D b t (ind i) [([],.aga,1)])=bh W λ_=>D / b*if i=4 then 1 else 0:=dA λk _=>by
    rw[cW];show D / b*(if 4=i then 1 else 0)+0=_;lia
   show bh W _=_;rw[this,d8];split<;>simp
 | @lay h z o q S S' Lk AJ H hS1 ih=>
  intro t b D W hs hS hd hb hD yQ ht hz;have Oe:=yL hs.b0 hb;obtain⟨E,a1,a3,a4,j,a5,a6⟩:=ih (t:=t) (b:=b*1) (D:=D) (W:=CT W [o]) (NC hs AJ) (λk hk=>by
   obtain⟨r,hr,o',ho,e⟩:=EZ hk;grind) (by lia) (by rw[Int.mul_one];exact hb) hD yQ (by lia) (by lia)
  have key:∀g,bh (CT W [o]) (λk=>pv D (b*1) t g (Lk k))=bh W λk=>pv D b t g (Lk (aK k o)):=λg=>by
   rw[(EY hs [o]).2.2,Int.mul_one];simp
  refine o9 (i0:=1) (by decide) (by decide) (by decide) hs Oe hD yQ (lR hd) (UL hs (by lia) AJ) (by simp) (F:=λg=>bh (CT W [o]) λk=>pv D (b*1) t g (Lk k)) (λg=>?_) (λi=>?_) E a1 a3 a4 j a5 (λk ws es Mqq hM l1 l2=>a6 k ws es Mqq hM (by lia) l2)
  ·dsimp only;rw[jo,key];show bT W*(D / b*0)+_=_;lia
  ·dsimp only;rw[jo,key];show bT W*(D / b*(if 1=i then 1 else 0))+_=_;rw[<-Ę,Au]
 | @mix h z os q S S' Lk AJ hdv H hS1 ih=>
  intro t b D W hs hS hd hb hD yQ ht hz;have Oe:=yL hs.b0 hb;have b0:=hs.b0;have l1:=AJ.l1;have l2:=AJ.l2;have p24:(0:Int)<24 ^ h:=Int.pow_pos (by decide);have Zr:b*os.length*24 ^ h<=880000:=by
   refine Int.le_trans ?_ hb;rw[Int.pow_succ,Ę];refine Int.mul_le_mul_of_nonneg_left ?_ (by lia);rw[Int.mul_comm (24 ^ h) 24];exact Ϝ (by lia) (by lia)
  obtain⟨E,a1,a3,a4,j,a5,a6⟩:=ih (t:=t) (b:=b*os.length) (D:=D) (W:=CT W os) (NC hs AJ) (λk hk=>by
   obtain⟨r,hr,o',ho,e⟩:=EZ hk;grind) (by
    refine Int.dvd_trans ?_ hd;grind[Int.pow_succ,Ę,Int.mul_comm,Int.mul_dvd_mul_left,Int.mul_dvd_mul_right]) Zr hD yQ (by lia) (by lia)
  have key:∀g,bh (CT W os) (λk=>pv D (b*os.length) t g (Lk k))=bh W λk=>pv D b t g (os.flatMap λo=>(Lk (aK k o)).map λx=>(x.1,x.2.1,x.2.2*os.length)):=λg=>by
   rw[(EY hs os).2.2];simp[dA,tV,ö,wH]
  refine o9 (i0:=2) (by decide) (by decide) (by decide) hs Oe hD yQ (lR hd) (UM hs (yL (NC hs AJ).b0 Zr) AJ) (by simp) (F:=λg=>bh (CT W os) λk=>pv D (b*os.length) t g (Lk k)) (λg=>?_) (λi=>?_) E a1 a3 a4 j a5 (λk ws es Mqq hM l1 l2=>a6 k ws es Mqq hM (by lia) l2)
  ·dsimp only;rw[jo,key];show bT W*(D / b*0)+_=_;lia
  ·dsimp only;rw[jo,key];show bT W*(D / b*(if 2=i then 1 else 0))+_=_;rw[<-Ę,Au]
 | @look h z ps ws S ZQ Lk hp hl wl nd hk H hz1 ih=>
  intro t b D W hs hS hd hb hD yQ ht hz;have Oe:=yL hs.b0 hb;have b0:=hs.b0;have kn:(bj W ps).Nodup:=wB _ _ Ģ;have km:∀s∈bj W ps,s∈ws.map (·.1):=λs pJ=>by
   obtain⟨p,Aw,e⟩:=jn.mp pJ;grind
  have zs:=G4 (ZQ:=ZQ) kn km;have way:∀s∈bj W ps,∃w∈ws,w.1=s/\wF ws s=w.2:=λs pJ=>by
   unfold wF;cases e:ws.find? λw=>decide (w.1=s) with
   |none=>
    grind
   |some w=>grind
  have per:∀s∈bj W ps,Y9 n D (ZQ s) (t++[s]) [gw (wF ws s) (t++[s]) b (bG W ps s)] λg=>bh (bG W ps s) λk=>pv D b (t++[s]) g (Lk s k):=λs pJ=>by
   obtain⟨w,hw,e1,e2⟩:=way s pJ;have zw:ZQ s<=((bj W ps).map ZQ).sum:=by
    obtain⟨l1,l2,e⟩:=List.append_of_mem pJ;rw[e,ð,List.sum_append,Ç,Û];lia
   rw[e2,<-e1];refine ih w hw (G5 hs (by lia)) (λk YT=>?_) hd hb hD yQ (by rw[ã,Ŋ,e1];lia) (by rw[e1];lia);obtain⟨k1,k2⟩:=List.mem_filter.mp YT;grind
  have pos:∀s∈bj W ps,∀i,0<=bh (bG W ps s) λk=>pv D b (t++[s]) (ind i) (Lk s k):=λs pJ i=>by
   obtain⟨w,hw,e1,e2⟩:=way s pJ;refine Qy (G5 hs pJ).ps λk YT=>NH hD b0 ?_;obtain⟨k1,k2⟩:=List.mem_filter.mp YT;have:=(H w hw).pos k.1 ⟨hS k k1,by lia⟩;rw[e1] at this;exact this
  have z1:∀s∈bj W ps,1<=ZQ s:=λs pJ=>by
   obtain⟨w,hw,e1,_⟩:=way s pJ;rw[<-e1];exact (H w hw).z1
  have kl:(bj W ps).length<=((bj W ps).map ZQ).sum:=by
   clear zs per pos;generalize bj W ps=K at z1
   induction K with
   |nil=>exact ė _
   |cons s K ih=>
    grind
  obtain⟨E,a1,a2,a3,a4,j,a5,a6⟩:=CC (n:=n) (D:=D) (t:=t) (ZQ:=ZQ) (sc:=λs=>gw (wF ws s) (t++[s]) b (bG W ps s)) (F:=λs g=>bh (bG W ps s) λk=>pv D b (t++[s]) g (Lk s k)) (bj W ps) kn per pos z1;have key:∀g,((bj W ps).map λs=>bh (bG W ps s) λk=>pv D b (t++[s]) g (Lk s k)).sum=bh W λk=>pv D b t g ((Lk (aK k ps) k).map λx=>(aK k ps::x.1,x.2)):=λg=>by
   rw[<-CB (ps:=ps) _ kn λp Aw=>jn.mpr ⟨p,Aw,rfl⟩];congr 1;refine ö λs _=>dA λk YT=>?_;have:=of_decide_eq_true (List.mem_filter.mp YT).2;rw[E5,this]
  rw[hz1,Nat.add_comm 1];refine o9 (i0:=3) (by decide) (by decide) (by decide) hs Oe hD yQ (lR hd) (Qx hs (by lia) hp hl wl nd (by lia) km) (by rw[Ê];lia) (F:=λg=>((bj W ps).map λs=>bh (bG W ps s) λk=>pv D b (t++[s]) g (Lk s k)).sum) (λg=>?_) (λi=>?_) E a1 (by lia) a4 j (by lia) (λk ws es Mqq hM l1 l2=>a6 k ws es Mqq hM (by lia) (by lia))
  ·dsimp only;rw[jo,key];show bT W*(D / b*0)+_=_;lia
  ·dsimp only;rw[jo,key];show bT W*(D / b*(if 3=i then 1 else 0))+_=_;rw[<-Ę,Au]
def VM (D:Int)(E:List En)(Mqq:Nat->Int):U:=.obj ["ends","mean"] [.lst (E.map wR),.dct (IX.map .str) (AI D Mqq)]
def UT {D:Int}{E:List En}{Mqq:Nat->Int}:bL "ends" (VM D E Mqq)=.ok (.lst (E.map wR)):=nr (by kernel_rfl)
def X_ {D:Int}{E:List En}{Mqq:Nat->Int}:bL "mean" (VM D E Mqq)=.ok (.dct (IX.map .str) (AI D Mqq)):=nr (by kernel_rfl)
def NI {D:Int}{Mqq:Nat->Int}:gj (.dct (IX.map .str) (AI D Mqq)) (.str "end")=.ok (i5 (bE (Mqq 0) D)):=nr (by kernel_rfl)
structure Gd (n:Nat)(c:Int)(h z:Nat)(D:Int)(p:U)(S:List Int->Prop)(Lk:List Int->List Pa):Prop where
 w:Wk n c h z p S Lk
 ln:∀r,S r->r.length=n
 d0:0<D
 d1:D<=10000000
 dv:c ^ h ∣ D
 p24:(24:Int) ^ h<=880000
 z1:z<=63
structure Ws (n:Nat)(D:Int)(Lk:List Pa)(E:List En):Prop where
 ok:As n D [] E
 ln:E.length<=63
 fn:∀g,(E.map (NG D g)).sum=pv D 1 [] (fg g) Lk
abbrev mn (D:Int)(Lk:List Pa)(i:Nat):Int:=pv D 1 [] (ind i) Lk
theorem Qz {h:Nat}{D:Int}(G:Gd n c h z D p S Lk){r:List Int}(hr:S r):∃E,Ws n D (Lk r) E/\eT [p,rowU r]=.ok (VM D E (mn D (Lk r))):=by
 have sn:Sn n 1 [(r,1)]:=⟨by simp,by unfold Nd;simp,λp hp=>by rw[Ą] at hp;subst hp;exact Ľ 1,λp hp=>by rw[Ą] at hp;subst hp;exact G.ln r hr,by decide,by show (1:Int)+0<=1;decide⟩;have z1:=G.z1;obtain⟨E,a1,a2,a3,j,a4,a5⟩:=walk G.w (t:=[]) sn (λk hk=>by grind) (by rw[Int.one_mul];exact G.dv) (by rw[Int.one_mul];exact G.p24) G.d0 G.d1 (by simp;lia) (by lia);have one:∀f ,bh [(r,1)] f=f r:=λf=>by unfold bh;simp
 refine⟨E,⟨a1,by lia,λg=>by rw[a3];exact one _⟩,?_⟩;have x:=a5 (400-j) [] [] _ (λ_=>Ľ _) (by simp;lia) (by simp;lia);have e0:AI D (λ_=>0)=ù 5 VI:=by
  show (ā 5).map (λi=>i5 (bE 0 D))=_;rw[Nw G.d0];rfl
 have e1:j+(400-j)=400:=by lia
 rw[e0,e1] at x;have e2:eT [p,rowU r]=vD _ cE _ 400 ([]++[gw p [] 1 [(r,1)]]) [] _:=h_ (jl r);rw[e2,x];obtain⟨k,hk⟩:∃k,400-j=k+1:=⟨399-j,by lia⟩;rw[hk];unfold vD;have e3:([]:List U)[([]:List U).length-1]? = L:=rfl;rw[e3];dsimp only;rw[Υ,h_ (by rw[Ê];lia)];congr 5;grind
theorem CD {h:Nat}{D:Int}(G:Gd n c h z D p S Lk){r:List Int}(hr:S r)(he:0<mn D (Lk r) 0):∃E,Ws n D (Lk r) E/\E≠[]/\g9 [p,rowU r]=.ok (VM D E (mn D (Lk r))):=by
 obtain⟨E,w,e⟩:=Qz G hr;have ne:E≠[]:=λz=>by
  have:=w.fn λ_ _=>1;rw[z] at this;have e2:pv D 1 [] (fg λ_ _=>1) (Lk r)=mn D (Lk r) 0:=by
   unfold mn pv;congr 1;refine ö λx _=>?_;cases x.2.1<;>rfl
  grind
 refine⟨E,w,ne,?_⟩;have lz:((E.map wR).length:Int)≠0:=by
  simp[*]
 have d:(((E.map wR).length:Int)==0)=M:=by lia
 simp_all[g9,mV,Pzz,fB,UT,id]
def lT (e:En):Dc:=br [] (e.2.2.2.map λp=>(aK p.1 e.2.2.1,p.2))
def Sl (e:En):List U:=(oA ((lT e).map (·.1))).map λk=>.tup [rowU k,i5 (bE (l_ (lT e) k) (bT (lT e)))]
theorem o_ {D:Int}{E:List En}(h:As n D t E){e:En}(he:e∈E):Nd (lT e)/\Ps (lT e)/\(∀f,bh (lT e) f=bh e.2.2.2 λk=>f (aK k e.2.2.1))/\bT (lT e)=bT e.2.2.2/\lT e≠[]/\(∀k∈(lT e).map (·.1),∃p∈e.2.2.2,k=aK p.1 e.2.2.1)/\(lT e).length<=880000:=by
 obtain⟨sn,_,bl,hp,pne,pl,_⟩:=h.el e he;obtain⟨a1,a2,a3⟩:=lN (e.2.2.2.map λp=>(aK p.1 e.2.2.1,p.2)) qG.1 qG.2 (λp hp=>by
  obtain⟨q,hq,rfl⟩:=Ú.mp hp;exact sn.ps q hq)
 have s:∀f,bh (lT e) f=bh e.2.2.2 λk=>f (aK k e.2.2.1):=λf=>by
  unfold lT;rw[a3 f,ñ];show 0+_=_;rw[Int.zero_add];rfl
 have tt:bT (lT e)=bT e.2.2.2:=by
  have q:∀d ,bT d=bh d _:=λd=>by rw[d8,Int.mul_one]
  rw[q,q,s]
 have t1:=sn.t0;refine⟨a1,a2,s,tt,λz=>?_,λk hk=>?_,?_⟩
 ·rw[z] at tt;have:bT ([]:Dc)=0:=rfl;lia
 ·obtain⟨p,hp,rfl⟩:=Ú.mp hk;rcases wD _ _ p hp with z|z
  ·cases z
  ·obtain⟨q,hq,e2⟩:=Ú.mp z;obtain⟨x,hx,rfl⟩:=Ú.mp hq;exact⟨x,hx,e2.symm⟩
 ·have l1:=d7 a2;have l2:=sn.le;have:((lT e).length:Int)<=bT (lT e):=l1;lia
theorem E6 {D:Int}{E:List En}(h:As n D t E){e:En}(he:e∈E)(sl:(lT e).length<64):fo [wR e]=.ok (.lst (Sl e)):=by
 obtain⟨sn,_,bl,hp,pne,pl,_⟩:=h.el e he;obtain⟨a1,a2,_,a4,a5,a6,a7⟩:=o_ h he;have sz:Å=16777216:=rfl;have t1:=sn.t0;have l1:=d7 sn.ps;have l2:=sn.le;obtain⟨B,e1,o2,o3,o4,rfl⟩:=cw (sg:=cg 2 (aD (bo 2) (aD (bo 3) bO))) (s:=iV)
  (λi B=>∃o2 o3 o4,B=[J (wR e),J (DU (br [] ((e.2.2.2.take i).map λp=>(aK p.1 e.2.2.1,p.2)))),o2,o3,o4,L])
  (λi u B hu h00=>by
   obtain⟨o2,o3,o4,hr⟩:=h00;subst hr;have hi:i<e.2.2.2.length:=by have:=(é.mp hu).1;rwa [Ê] at this
   rw[ç,á hi] at hu;obtain rfl:Np _=u:=by injection hu
   have el:=sn.ln _ (ĩ hi);have lo:=wx (λj hj=>by rw[el];exact hp j hj) pl;have ql:(br [] ((e.2.2.2.take i).map λp=>(aK p.1 e.2.2.1,p.2))).length<1000000:=by
    grind[jW,aK,Ê,ŝ]
   have sn':br [] ((e.2.2.2.take (i+1)).map λp=>(aK p.1 e.2.2.1,p.2))=nh (br [] ((e.2.2.2.take i).map λp=>(aK p.1 e.2.2.1,p.2))) (aK e.2.2.2[i].1 e.2.2.1) e.2.2.2[i].2:=by
    rw[ŀ hi,ð,Ç,ϔ,lj]
   rw[sn'];refine⟨_,_,VL,.inl ?_,J (rowU e.2.2.2[i].1),J (.int e.2.2.2[i].2),J (rowU (aK e.2.2.2[i].1 e.2.2.1)),rfl⟩;unfold iV wR;simp only[Pzz,xA,lo,wu,tS,Aq,Ar,Ap ql];rfl)
  (B:=[J (wR e),J (DU []),L,L,L,L]) ⟨_,_,_,rfl⟩
 rw[Ê,Ĺ] at e1;have e0:DU []=.dct [] []:=rfl;rw[e0] at e1;have sv:=λ{B:Ev}=>GX (B:=B) a5 (by lia) λp hp=>⟨by have:=a2 p hp;lia,by have:=ET a2 p hp;lia⟩;have so:=Js a5 sl λp Aw z=>by
  obtain⟨q,_,e2⟩:=a6 p.1 (ÿ Aw);rw[z] at e2;exact pne (List.map_eq_nil_iff.mp e2.symm)
 have el:=jm (f:=HZ [L,J 5,J 1] (bo 0) dN (aU (ag (ah 0) (ag (bq 2 gG (ag (aS gj (ah 2) (ah 0)) (ag (ah 1) ar))) ar))) [J (wR e),J (DU (lT e)),o2,o3,o4,J (.int (bT (lT e)))]) (c:=rowU) (g:=λk=>.tup [rowU k,i5 (bE (l_ (lT e) k) (bT (lT e)))]) (xs:=oA ((lT e).map (·.1))) λk hk=>by
  have YK:=(g8 _).mem_iff.mp hk;have ra:=oY (b:=bT (lT e)) (r9 a2 k) (by lia) (by lia);simp only[Pzz,Nat.reduceAdd,X1 YK,ra]
 have lz:((oA ((lT e).map (·.1))).map λk=>U.tup [rowU k,i5 (bE (l_ (lT e) k) (bT (lT e)))]).length<=Å:=by rw[Ê,(g8 _).length_eq,Ê];lia
 have wi:wiB (DU e.2.2.2)=λB=>.ok (e.2.2.2.map Np,B):=by funext B;exact tU sn.ne
 have fw:bL "weights" (wR e)=.ok _:=Qs;unfold fo jH;have VX:gU _ _ _ _=.nx [J (wR e),J (DU (lT e)),o2,o3,o4,L]:=e1;simp only[Pzz,fB,fw,Ql,wi,VX,Nq,Nt,sv,so,el,lz];rfl
theorem Wk.tot {h:Nat}(H:Wk n c h z p S Lk):∀{r:List Int} {b D:Int} {t:Tr},S r->0<b->0<D->b*c ^ h ∣ D->pv D b t (ind 0) (Lk r)+pv D b t (ind 4) (Lk r)=D / b:=by
 induction H with
 |fin=>
  intro r b D t _ _ _ _;rw[cW,cW];show D / b*1+0+(D / b*0+0)=_;lia
 |aga=>
  intro r b D t _ _ _ _;rw[cW,cW];show D / b*0+0+(D / b*1+0)=_;lia
 |lay _ _ hS ih=>
  intro r b D t hr hb hD hd;have:=ih (t:=t) (hS r hr) hb hD hd;rw[cW,cW];show D / b*0+_+(D / b*0+_)=_;lia
 | @mix h z os q S S' Lk hs hdv H hS ih=>
  intro r b D t hr hb hD hd;rw[cW,cW,tV,tV];show D / b*0+_+(D / b*0+_)=_;have l1:=hs.l1;have C0:b*os.length*c ^ h ∣ D:=by
   refine Int.dvd_trans ?_ hd;grind[Int.pow_succ,Ę,Int.mul_comm,Int.mul_dvd_mul_left,Int.mul_dvd_mul_right]
  have abo:∀o∈os,pv D b t (ind 0) ((Lk _).map _)+pv D b t (ind 4) _=D / (b*os.length):=λo ho=>by
   rw[wH,wH];exact ih (hS r hr o ho) (Int.mul_pos hb (by lia)) hD C0
  have abp:∀l:List _,(∀o∈l,o∈os)->(l.map λo=>pv D b t (ind 0) ((Lk (aK r o)).map λx=>(x.1,x.2.1,x.2.2*os.length))).sum+(l.map λo=>pv D b t (ind 4) ((Lk (aK r o)).map λx=>(x.1,x.2.1,x.2.2*os.length))).sum=l.length*(D / (b*os.length)):=by
   intro l
   induction l with
   |nil=>simp
   |cons o l ih2=>
    intro hl;have a:=abo o (hl o Ï);have b':=ih2 λx hx=>hl x (Ö _ hx);rw[Ç,Ç,Û,Û,Ù];lia
  have s:=abp os λo ho=>ho;have e:(os.length:Int)*(D / (b*os.length))=D / b:=by
   obtain⟨k,rfl⟩:=lR C0;rw[ū _ (Int.ne_of_gt (Int.mul_pos hb (by lia))),Ę,ū _ (by lia)]
  lia
 | @look h z ps ws S ZQ Lk hp hl wl nd hk H hz ih=>
  intro r b D t hr hb hD hd;rw[cW,cW,E5,E5];show D / b*0+_+(D / b*0+_)=_;obtain⟨w,hw,e⟩:=Ú.mp (hk r hr);have:=ih w hw (t:=t++[aK r ps]) ⟨hr,e.symm⟩ hb hD hd;rw[e] at this;lia
theorem Gd.pe {h:Nat}{D:Int}(G:Gd n c h z D p S Lk){r:List Int}(hr:S r):mn D (Lk r) 0<=D/\0<=mn D (Lk r) 4:=by
 have a:=G.w.tot (t:=[]) hr (b:=1) (by decide) G.d0 (by rw[Int.one_mul];exact G.dv);have b:=NH (t:=[]) (i:=4) G.d0 (show (0:Int)<1 by decide) (G.w.pos r hr);lia
def xE (D:Int)(e:En):Int:=bT e.2.2.2*(D / e.2.1)
def Oj (D y:Int)(e:En):List (List Int)×List U×List U:=(e.1,[.int (bE (xE D e) y).1,.int (bE (xE D e) y).2],Sl e)
theorem NJ {D:Int}{E:List En}(hD:0<D)(h:As n D t E){e:En}(he:e∈E):0<xE D e:=by
 obtain⟨sn,hd,_⟩:=h.el e he;have:=sn.t0;have:=sn.b0;refine Int.mul_pos (by lia) ?_;obtain⟨k,rfl⟩:=hd;rw[ū _ (by lia)];exact ϴ hD (by lia)
theorem NK {D y:Int}{E:List En}(hD:0<D)(yQ:D<=10000000)(hy:0<y)(hy2:y<=D)(h:As n D t E){e:En}(he:e∈E):mT [i5 (bE (bT e.2.2.2) e.2.1),i5 (bE y D)]=.ok (i5 (bE (xE D e) y)):=by
 obtain⟨sn,hd,_⟩:=h.el e he;have t1:=sn.t0;have b0:=sn.b0;have x0:=NJ hD h he;have e1:bE (bT e.2.2.2) e.2.1=bE (xE D e) D:=by
  refine EX (by lia) b0 (by lia) hD ?_;unfold xE;rw[Ę,Int.ediv_mul_cancel hd]
 rw[e1];exact Qu hD yQ (by lia) hy hy2
theorem wI:∀t:Tr,kH (t.map rowU)=J t
 | []=>rfl
 |r::t=>by
  rw[Ç];unfold kH;have e:Ml (rowU r)=J r:=lP r;rw[e,wI t]
theorem yM {α:Type}(f:α->List (List Int)×List U×List U):∀l:List α,qb (l.map λx=>B0 (f x))=J (l.map f)
 | []=>rfl
 |x::l=>by
  rw[Ç];unfold qb;have e:GC (B0 (f x))=J (f x):=by
   show (kH _).map _=_;rw[wI];rfl
  rw[e,yM f l];rfl
theorem yN {h:Nat}{D:Int}(G:Gd n c h z D p S Lk){r:List Int}(hr:S r)(he:0<mn D (Lk r) 0)(sl:∀E,Ws n D (Lk r) E->∀e∈E,(lT e).length<64) :
  ∃E,Ws n D (Lk r) E/\kO [p,rowU r]=.ok (.lst ((rP (E.map (Oj D (mn D (Lk r) 0)))).map B0)):=by
 obtain⟨E,w,ne,e⟩:=CD G hr he;refine⟨E,w,?_⟩;have pe:=(G.pe hr).1;have wl:=w.ln;have el:=jm (f:=HZ [L,J 3] (bo 0) dN (aU (ag (gT (bL "trace") (ah 0)) (ag (bq 2 mT (ag (bq 1 a8 (ag (ah 0) ar)) (ag (ah 1) ar))) (ag (bq 1 fo (ag (ah 0) ar)) ar)))) [J p,J (rowU r),J (VM D E (mn D (Lk r))),J (i5 (bE (mn D (Lk r) 0) D))]) (c:=wR) (g:=λe=>B0 (Oj D _ e)) λe pK=>by
  obtain⟨sn,_,bl,_⟩:=w.ok.el e pK;have ov:=NK G.d0 G.d1 he pe w.ok pK;have ch:a8 [wR e]=.ok _:=qI sn (by lia);have rs:=E6 w.ok pK (sl E w e pK);have ft:bL "trace" (wR e)=.ok (trU e.1):=Qr;simp only[Pzz,ft,ch,ov,rs];rfl
 have so:vH [.lst (E.map λe=>B0 (Oj D (mn D (Lk r) 0) e))]=.ok (.lst ((rP (E.map (Oj D (mn D (Lk r) 0)))).map B0)):=by
  unfold vH;dsimp only;rw[yM];refine h_ ⟨by rw[Ê];lia,?_⟩;rw[ñ];exact w.ok.nd
 unfold kO vQ;simp only[Pzz,fB,e,X_,NI,UT,el,so]
theorem wJ {α:Type}{f:α->Int}:∀{l:List α},(∀x∈l,0<=f x)->(l.map f).sum=0->∀x∈l,f x=0
 | [],_,_,x,hx=>by cases hx
 |y::l,h,e,x,hx=>by
  have nn:∀l:List α,(∀x∈l,0<=f x)->0<=(l.map f).sum:=by
   intro l
   induction l with
   |nil=>exact λ_=>Ľ _
   |cons z l ih=>exact λh=>by rw[Ç,Û];have:=h z Ï;have:=ih λw hw=>h w (Ö _ hw);lia
  rw[Ç,Û] at e;have a:=h y Ï;have b:=nn l λw hw=>h w (Ö _ hw);rcases Ø.mp hx with rfl|hx
  ·lia
  ·exact wJ (λw hw=>h w (Ö _ hw)) (by lia) x hx
theorem G6 {n:Nat}{D:Int}{Lk:List Pa}{E:List En}(hD:0<D)(w:Ws n D Lk E){P:Tr->List Int->Prop}[∀t x,Decidable (P t x)](h:∀x∈Lk,∀r,x.2.1=.fin r->P x.1 r):∀e∈E,∀p∈e.2.2.2,P e.1 (aK p.1 e.2.2.1):=by
 have z:=w.fn λt x=>if P t x then 0 else 1
 have e0:pv D 1 [] (fg λt x=>if P t x then 0 else 1) Lk=0:=by
  have:∀Lk:List Pa,(∀x∈Lk,∀r,x.2.1=.fin r->P x.1 r)->(Lk.map λx=>D / (1*x.2.2)*fg (λt x=>if P t x then 0 else 1) ([]++x.1) x.2.1).sum=0:=by
   intro Lk
   induction Lk with
   |nil=>exact λ_=>rfl
   |cons y Lk ih=>
    intro h;rw[Ç,Û,ih λx hx=>h x (Ö _ hx)];have:fg (λt x=>if P t x then 0 else 1) ([]++y.1) y.2.1=0:=by
     have hy:=h y Ï;cases hk:y.2.1 with
     |fin r=>exact h_ (hy r hk)
     |_=>rfl
    rw[this];simp
  exact this Lk h
 rw[e0] at z;have pos:∀e∈E,∀p∈e.2.2.2,0<p.2*(D / e.2.1):=λe he p hp=>by
  obtain⟨sn,hd,_⟩:=w.ok.el e he;have:=sn.ps p hp;have:=sn.b0;refine Int.mul_pos (by lia) ?_;obtain⟨k,rfl⟩:=hd;rw[ū _ (by lia)];exact ϴ hD (by lia)
 have nn:∀e∈E,∀p∈e.2.2.2,0<=p.2*(D / e.2.1*if P e.1 (aK p.1 e.2.2.1) then 0 else 1):=λe he p hp=>by
  rw[<-Ę];exact Int.mul_nonneg (Int.le_of_lt (pos e he p hp)) (by split<;>decide)
 intro e he p hp;have a:=wJ (λe he=>by
  have:∀l:Dc,(∀p∈l,p∈e.2.2.2)->0<=(l.map λp=>p.2*(D / e.2.1*if P e.1 (aK p.1 e.2.2.1) then 0 else 1)).sum:=by
   intro l
   induction l with
   |nil=>exact λ_=>Ľ _
   |cons q l ih=>exact λh=>by rw[Ç,Û];have:=nn e he q (h q Ï);have:=ih λx hx=>h x (Ö _ hx);lia
  exact this e.2.2.2 λp hp=>hp) z e he
 have b:=wJ (λp hp=>nn e he p hp) a p hp;by_cases c:P e.1 (aK p.1 e.2.2.1)
 ·exact c
 ·rw[hZ c,Int.mul_one] at b;have:=pos e he p hp;lia
theorem CF:∀{ps:List (List (List Int)×List U×List U)} {k:List (List Int)},k∈ps.map (·.1)->(k,mC ps k)∈ps
 | [],k,h=>by cases h
 |p::ps,k,h=>by
  unfold mC;rw[Ŷ];by_cases c:k=p.1
  ·rw[c,beq_self_eq_true];exact Ï
  ·rw[beq_eq_false_iff_ne.mpr c];exact Ö _ (CF ((Ø.mp h).resolve_left c))
theorem Jy {ps:List (List (List Int)×List U×List U)}{x:List (List Int)×List U×List U}(h:x∈rP ps):x∈ps:=by
 obtain⟨k,hk,rfl⟩:=Ú.mp h;exact CF ((mQ _).mem_iff.mp hk)
def sg3 {k:Nat}{a b c:U}:cg 3 (aD (bo i) (aD (bo j) (aD (bo k) bO))) (.tup [a,b,c]) B=.ok (((B.set i (J a)).set j (J b)).set k (J c)):=nr rfl
theorem UU {D:Int}{E:List En}(h:As n D t E){e:En}(he:e∈E)(hu:u∈Sl e):∃p∈e.2.2.2,∃f,u=.tup [rowU (aK p.1 e.2.2.1),f]:=by
 obtain⟨k,hk,rfl⟩:=Ú.mp hu;obtain⟨p,hp,rfl⟩:=(o_ h he).2.2.2.2.2.1 k ((g8 _).mem_iff.mp hk);exact⟨p,hp,_,rfl⟩
theorem NM {h:Nat}{D:Int}(G:Gd n c h z D p S Lk){r due:List Int}(hr:S r)(he:0<mn D (Lk r) 0)(sl:∀E,Ws n D (Lk r) E->∀e∈E,(lT e).length<64)(hd:∀x∈Lk r,∀y,x.2.1=.fin y->y=due):eJ [p,rowU r,rowU due]=.ok .non:=by
 obtain⟨E,w,e⟩:=yN G hr he sl;have ad:=G6 G.d0 w (P:=λ_ x=>x=due) hd;obtain⟨B,e1,o3,o4,o5,o6,o7,rfl⟩:=cw (us:=(rP (E.map (Oj D (mn D (Lk r) 0)))).map B0) (sg:=cg 3 (aD (bo 3) (aD (bo 4) (aD (bo 5) bO)))) (s:=kX)
  (λi B=>∃o3 o4 o5 o6 o7,B=[J p,J (rowU r),J _,o3,o4,o5,o6,o7])
  (λi u B hu h00=>by
   obtain⟨o3,o4,o5,o6,o7,hr'⟩:=h00;subst hr';obtain⟨x,hx,rfl⟩:=Ú.mp (Ċ hu);obtain⟨e',pK,rfl⟩:=Ú.mp (Jy hx);obtain⟨B2,e2,q6,q7,rfl⟩:=cw (sg:=cg 2 (aD (bo 6) (aD (bo 7) bO))) (s:=ie)
    (λi B=>∃o6 o7,B=[J p,J (rowU r),J _,J _,J _,J _,o6,o7])
    (λi u B hu h00=>by
     obtain⟨o6,o7,hr'⟩:=h00;subst hr';obtain⟨q,hq,f,rfl⟩:=UU w.ok pK (Ċ hu);have eq:=ad e' pK q hq;have ee:pW (rowU (aK q.1 e'.2.2.1)) (rowU due)=.ok Z:=by
      rw[eq];have:=Bq due due;rw[hJ rfl] at this;exact this
     refine⟨_,_,VL,.inl ?_,J (rowU (aK q.1 e'.2.2.1)),J f,rfl⟩;simp_all[ie,Pzz])
    (B:=[J p,J (rowU r),J (rowU due),J (trU e'.1),J (.tup (Oj D (mn D (Lk r) 0) e').2.1),J (.lst (Sl e')),o6,o7]) ⟨_,_,rfl⟩
   refine⟨_,_,sg3,.inl ?_,J (trU e'.1),J (.tup (Oj D (mn D (Lk r) 0) e').2.1),J (.lst (Sl e')),q6,q7,rfl⟩;show ff _ _ _ [J p,J (rowU r),J _,J (trU e'.1),J _,J (.lst (Sl e')),o6,o7]=_;simp only[Pzz,e2])
  (B:=[J p,J (rowU r),J (rowU due),L,L,L,L,L]) ⟨_,_,_,_,_,rfl⟩
 simp_all[eJ,iW,Pzz,fB]
def enB (us:List U)(B:Ev):R (List U×Ev):=match us with
 | [u]=>match Iu u with
  |some us=>.ok (rO 0 us,B)
  |_=>.stk
 |_=>.stk
def UW:Gw ga B=(ga B).bind λx=>enB x.1 x.2:=nr rfl
def Ya:enB [.lst us] B=.ok (rO 0 us,B):=nr rfl
def aao:FC .non=Z:=nr rfl
theorem Jz {ds:List U}(h:∀d∈ds,∃a b,d=.tup [a,b]/\eJ [p,a,b]=.ok .non):kY [p,.lst ds]=.ok (.tup [.str "right"]):=by
 have mem:∀(us:List U) (k:Nat) (u:U),u∈rO k us->∃i:Int,∃d∈us,u=.tup [.int i,d]:=by
  intro us
  induction us with
  |nil=>intro k u hu;cases hu
  |cons d us ih=>
   intro k u hu;rcases Ø.mp hu with rfl|hu
   ·exact⟨k,d,Ï,rfl⟩
   grind
 obtain⟨B,e1,o2,o3,o4,rfl⟩:=cw (us:=rO 0 ds) (sg:=cg 2 (aD (bo 2) (aD (bo 3) bO))) (s:=qi)
  (λi B=>∃o2 o3 o4,B=[J p,J (.lst ds),o2,o3,o4])
  (λi u B hu h00=>by
   obtain⟨o2,o3,o4,hr⟩:=h00;subst hr;obtain⟨k,d,hd,rfl⟩:=mem _ _ u (Ċ hu);obtain⟨a,b,rfl,e⟩:=h d hd;refine⟨_,_,VL,.inl ?_,J (.int k),J (.tup [a,b]),J .non,rfl⟩;unfold qi;simp only[Pzz,e,aao])
  (B:=[J p,J (.lst ds),L,L,L]) ⟨_,_,_,rfl⟩
 unfold kY vW;simp only[Pzz,fB,Nat.reduceAdd,UW,Ya,e1]
def vU (D y a:Int)(E:List En):U:=.obj ["again","traces"] [i5 (bE a D),.dct (E.map λe=>trU e.1) (E.map λe=>i5 (bE (xE D e) y))]
def aap {D y a:Int}{E:List En}:bL "again" (vU D y a E)=.ok (i5 (bE a D)):=nr (by kernel_rfl)
def aaq {D y a:Int}{E:List En}:bL "traces" (vU D y a E)=.ok (.dct (E.map λe=>trU e.1) (E.map λe=>i5 (bE (xE D e) y))):=nr (by kernel_rfl)
def G7 {a b:Tr}:trU a=trU b↔a=b:=by
 refine⟨λh=>?_,λh=>by rw[h]⟩;exact (List.map_inj_right λa b h=>dG.mp h).mp (tup_inj.mp h)
theorem QA (t:Tr):fE (trU t)=Z:=by
 have h1:uH (t.map rowU)=Z:=by
  induction t with
  |nil=>rfl
  |cons r t ih=>
   rw[Ç];unfold uH;rw[ß];exact⟨wq r,ih⟩
 have h2:=Sa t;unfold trU dpK at h2;show (uH _&&decide _)=Z;lia
theorem QB {h:Nat}{D:Int}(G:Gd n c h z D p S Lk){r:List Int}(hr:S r)(he:0<mn D (Lk r) 0):∃E,Ws n D (Lk r) E/\E≠[]/\dJ [p,rowU r]=.ok (vU D (mn D (Lk r) 0) (mn D (Lk r) 4) E):=by
 obtain⟨E,w,ne,e⟩:=CD G hr he;refine⟨E,w,ne,?_⟩;have sz:Å=16777216:=rfl;have pe:=(G.pe hr).1;have wl:=w.ln;obtain⟨B,e1,o5,rfl⟩:=cw (sg:=bo 5) (s:=mX)
  (λi B=>∃o5,B=[J p,J (rowU r),J _,J _,J (.dct ((E.take i).map λe=>trU e.1) ((E.take i).map λe=>i5 (bE (xE D e) (mn D (Lk r) 0)))),o5])
  (λi u B hu h00=>by
   obtain⟨o5,hr'⟩:=h00;subst hr';have hi:i<E.length:=by have:=(é.mp hu).1;rwa [Ê] at this
   rw[ç,á hi] at hu;obtain rfl:wR E[i]=u:=by injection hu
   have hm:=ĩ hi;obtain⟨sn,_,bl,_⟩:=w.ok.el _ hm;have ov:=NK G.d0 G.d1 he pe w.ok hm;have ch:a8 [wR E[i]]=.ok _:=qI sn (by lia);have ft:bL "trace" (wR E[i])=.ok _:=Qr;have nk:trU E[i].1∉(E.take i).map _:=λz=>by
    obtain⟨q,hq,e2⟩:=Ú.mp z;have nd:=w.ok.nd;rw[<-List.take_append_drop i E,ð,Ĳ] at nd;refine nd.2.2 q.1 (ÿ hq) E[i].1 (ÿ ?_) (G7.mp e2);rw[Ķ hi];exact Ï
   have fk:jd ((E.take i).map λe=>trU e.1) (trU E[i].1)=Z:=by
    have tu:((E.take i).map λe=>trU e.1).all Ik=Z:=ì.mpr λu hu=>by obtain⟨q,_,rfl⟩:=Ú.mp hu;rfl
    unfold jd;rw[QA,tu,Bool.and_self,Bool.or_true]
   have dp:∀B ,UI 4 _ _ B (J (J (.dct _ ((E.take i).map _))))=.nx (B.set 4 (J (.dct ((E.take (i+1)).map λe=>trU e.1) ((E.take (i+1)).map λe=>i5 (bE (xE D e) (mn D (Lk r) 0)))))):=λB=>by
    unfold UI;dsimp only;rw[h_ ⟨fk,by rw[Ê,ŝ];lia⟩];unfold cq bS;rw[hZ nk,hZ nk,ŀ hi,ð,ð];rfl
   refine⟨_,_,uM,.inl ?_,J (wR E[i]),rfl⟩;unfold mX;simp only[Pzz,ch,ov,ft,wu,dp])
  (B:=[J p,J (rowU r),J (VM D E (mn D (Lk r))),J (i5 (bE (mn D (Lk r) 0) D)),J (.dct [] []),L]) ⟨_,rfl⟩
 rw[Ê,Ĺ] at e1;unfold dJ qh;simp only[Pzz,fB,e,X_,NI,UT,e1,NA];rfl
noncomputable def at_ (t:Tr):Tr->List Int->Int:=λt' _=>if t'=t then 1 else 0
theorem NN (D:Int)(t:Tr)(e:En):NG D (at_ t) e=if e.1=t then xE D e else 0:=by
 show bh e.2.2.2 (λk=>D / e.2.1*if e.1=t then 1 else 0)=_;rw[d8];unfold xE;split
 ·rw[Int.mul_one]
 ·rw[Int.mul_zero,Int.mul_zero]
theorem E7 {D:Int}:∀{E:List En},(E.map (·.1)).Nodup->∀e∈E,(E.map (NG D (at_ e.1))).sum=xE D e
 | [],_,e,he=>by cases he
 |x::E,nd,e,he=>by
  have zero:∀(t:Tr) (E:List En),t∉E.map (·.1)->(E.map (NG D (at_ t))).sum=0:=by
   intro t E
   induction E with
   |nil=>exact λ_=>rfl
   |cons y E ih=>
    intro h;rw[Ç,Ø,not_or] at h;rw[Ç,Û,NN,hZ (λz=>h.1 z.symm),ih h.2];rfl
  rw[Ç] at nd;obtain⟨n1,n2⟩:=ø.mp nd;rw[Ç,Û,NN];rcases Ø.mp he with rfl|he
  ·grind
  ·rw[hZ (λz=>n1 (by rw[z];exact ÿ he)),E7 n2 e he,Int.zero_add]
theorem G8 {D:Int}{t:Tr}:∀{E:List En},(E.map (NG D (at_ t))).sum≠0->∃e∈E,e.1=t
 | [],h=>absurd rfl h
 |x::E,h=>by
  rw[Ç,Û,NN] at h;by_cases c:x.1=t
  ·exact⟨x,Ï,c⟩
  ·rw[hZ c,Int.zero_add] at h;obtain⟨e,he,z⟩:=G8 h;exact⟨e,Ö _ he,z⟩
noncomputable def NO (x:Pa):Tr×Nat×Int:=(x.1,x.2.1.ix,x.2.2)
theorem pb:∀{l m:List Int},l.Perm m->l.sum=m.sum
 |_,_,.nil=>rfl
 |_,_,.cons x h=>by rw[Û,Û,pb h]
 |_,_,.swap x y l=>by rw[Û,Û,Û,Û];lia
 |_,_,.trans h1 h2=>(pb h1).trans (pb h2)
def NP {D b:Int}{g:Tr->Kd->Int}(g':Tr->Nat->Int)(hg:∀t k,g t k=g' t k.ix)(h:(L1.map NO).Perm (L2.map NO)):pv D b t g L1=pv D b t g L2:=by
 have e:∀Lk ,pv D b t g Lk=((Lk.map NO).map λy=>D / (b*y.2.2)*g' (t++y.1) y.2.1).sum:=λLk=>by
  unfold pv;rw[ñ];congr 1;exact ö λx _=>by rw[hg];rfl
 rw[e,e];exact pb (h.map _)
noncomputable def aar (t t':Tr)(i:Nat):Int:=if i=0 then (if t'=t then 1 else 0) else 0
theorem Yb (t t':Tr)(k:Kd):fg (at_ t) t' k=aar t t' k.ix:=by cases k<;>rfl
theorem wK {D:Int}{E1 E2:List En}(hD:0<D)(w1:Ws n D L1 E1)(w2:Ws n D L2 E2)(hL:(L1.map NO).Perm (L2.map NO)):∀e∈E1,∃e'∈E2,e'.1=e.1/\xE D e'=xE D e:=λe he=>by
 have same:(E2.map (NG D (at_ e.1))).sum=xE D e:=by
  rw[w2.fn,<-E7 w1.ok.nd e he,w1.fn];exact (NP _ (Yb e.1) hL).symm
 have pos:=NJ hD w1.ok he;obtain⟨e',pK,z⟩:=G8 (D:=D) (t:=e.1) (E:=E2) (by lia);refine⟨e',pK,z,?_⟩;rw[<-E7 w2.ok.nd e' pK,z,same]
theorem G9 {f:En->U}:∀{E:List En},(E.map (·.1)).Nodup->∀e∈E,bR (E.map λe=>trU e.1) (E.map f) (trU e.1)=J (f e)
 | [],_,e,he=>by cases he
 |x::E,nd,e,he=>by
  rw[Ç] at nd;obtain⟨n1,n2⟩:=ø.mp nd;rw[Ç,Ç];unfold bR;rcases Ø.mp he with rfl|he
  ·rw[h_ rfl]
  ·rw[hZ (λz=>n1 (by rw[G7.mp z];exact ÿ he))];exact G9 n2 e he
theorem NQ {D y a:Int}{E1 E2:List En}(hD:0<D)(w1:Ws n D L1 E1)(w2:Ws n D L2 E2)(n1:E1≠[])(n2:E2≠[])(hL:(L1.map NO).Perm (L2.map NO)):ei [vU D y a E1,vU D y a E2]=.ok (.bl M):=by
 have ea:pW (i5 (bE a D)) (i5 (bE a D))=.ok Z:=by
  have:=Bq [(bE a D).1,(bE a D).2] [(bE a D).1,(bE a D).2];rw[hJ rfl] at this;exact this
 have wk:∀{E:List En},E≠[]->rJ (E.map λe=>trU e.1)=Z:=λ{E} h=>by
  unfold rJ;rw[ß];refine⟨by simp[*],ì.mpr λu hu=>?_⟩;obtain⟨e,_,rfl⟩:=Ú.mp hu;rfl
 have kt:∀E:List En,(E.map λe=>i5 (bE (xE D e) y)).all (λu=>fE u&&decide (dpK u<=3))=Z:=λE=>ì.mpr λu hu=>by
  obtain⟨e,_,rfl⟩:=Ú.mp hu;rfl
 have len:=by
  have:=(List.perm_ext_iff_of_nodup w1.ok.nd w2.ok.nd).mpr λt=>⟨λht=>by
   obtain⟨e,he,rfl⟩:=Ú.mp ht;obtain⟨e',pK,z,_⟩:=wK hD w1 w2 hL e he;rw[<-z];exact ÿ pK,λht=>by
   obtain⟨e,he,rfl⟩:=Ú.mp ht;obtain⟨e',pK,z,_⟩:=wK hD w2 w1 hL.symm e he;rw[<-z];exact ÿ pK⟩
  have:=this.length_eq
  rwa [Ê,Ê] at this
 have eq:Mh (E1.map λe=>trU e.1) (E1.map λe=>i5 (bE (xE D e) y)) (E2.map λe=>trU e.1) (E2.map λe=>i5 (bE (xE D e) y))=Z:=by
  unfold Mh;rw[Ê,Ê,len,beq_self_eq_true,List.zip_map'];refine ì.mpr λq hq=>?_;obtain⟨e,he,rfl⟩:=Ú.mp hq;obtain⟨e',pK,z,x⟩:=wK hD w1 w2 hL e he;unfold Mg;rw[<-z,G9 w2.ok.nd e' pK,x];exact hJ rfl
 have ne:B1 (.dct (E1.map λe=>trU e.1) (E1.map λe=>i5 (bE (xE D e) y))) (.dct (E2.map λe=>trU e.1) (E2.map λe=>i5 (bE (xE D e) y)))=.ok (.bl M):=by
  grind[B1]
 unfold ei jJ;simp only[Pzz,fB,aap,ea,aaq,ne]
theorem NR {n:Int}(h0:0<=n)(h1:n<=100000):rL (.lst [u]) (.int n)=.ok (.lst (ù n.toNat u)):=by
 have e:rL (.lst [u]) (.int n)=if 0<=n/\n<=100000/\[u].length*n.toNat<=100000/\[u].isEmpty=M then .ok _ else .stk:=nr rfl
 simp[*]
theorem qJ {a:Int}{k:Nat}(h:u∈bK a k):∃i:Nat,i<k/\u=.int (a+i):=by
 obtain⟨i,hi,rfl⟩:=Ú.mp h;exact⟨i,Ź.mp hi,rfl⟩
def Y_ (us:List U)(B:Ev):R (List U×Ev):=match us with
 | [.int i,.int j]=>if (-1000000<=i/\i<=1000000)/\(-1000000<=j/\j<=1000000) then .ok (bK i (j-i).toNat,B) else .stk
 |_=>.stk
def Yc {i j:Int}(h:(-1000000<=i/\i<=1000000)/\(-1000000<=j/\j<=1000000)):Y_ [.int i,.int j] B=.ok (bK i (j-i).toNat,B):=by
 simp_all[Y_,h_]
def UX:Fw ga B=(ga B).bind λx=>Y_ x.1 x.2:=nr rfl
theorem UY {vs:List U}(hl:us.length<=1000)(hv:us.length=vs.length)(h:∀(i:Nat) u,us[i]? = J u->∃v,vs[i]? = J v/\dJ [p,u]=.ok v)(ha:∀v∈vs,∀v'∈vs,ei [v,v']=.ok (.bl M)):iJ [p,.lst us,.lst (ù us.length (.int 0))]=.ok (.tup [.str "quiet"]):=by
 have el:∀{us vs:List U},us.length=vs.length->(∀(i:Nat) u,us[i]? = J u->∃v,vs[i]? = J v/\dJ [p,u]=.ok v)->∀{x:Option U} {y:Option U},JG (HZ [L,J 0] (bo 0) dN (bq 2 dJ (ag (ah 1) (ag (ah 0) ar))) [J p,x,y,L,L,L]) us=.ok vs:=by
  intro us
  induction us with
  |nil=>intro vs hv _ x y;cases vs with|nil=>rfl|cons=>cases hv
  |cons u us ih=>
   intro vs hv h x y;cases vs with
   |nil=>cases hv
   |cons v vs=>
    obtain⟨v',e1,e2⟩:=h 0 u rfl;cases e1;have ih':=ih (by simpa using hv) (λi u hu=>h (i+1) u hu) (x:=x) (y:=y);have e3:HZ [L,J 0] (bo 0) dN (bq 2 dJ (ag (ah 1) (ag (ah 0) ar))) [J p,x,y,L,L,L] u=.ok (J v):=by
     simp only[Pzz,e2]
    unfold JG;rw[e3];rw[ih'];rfl
 have mk:∀{i:Nat},i<us.length->(ù us.length (U.int 0))[i]? = J (.int 0):=λ{i} hi=>by grind
 obtain⟨B,e1,o4,o5,rfl⟩:=cw (sg:=bo 4) (s:=jL)
  (λi B=>∃o4 o5,B=[J p,J (.lst us),J (.lst (ù us.length (.int 0))),J (.lst vs),o4,o5])
  (λi u B hu h00=>by
   obtain⟨o4,o5,hr⟩:=h00;subst hr;obtain⟨a,ha1,rfl⟩:=qJ (Ċ hu);rw[Int.zero_add] at *;obtain⟨B2,e2,q5,rfl⟩:=cw (us:=bK _ ((us.length:Int)-((a:Int)+1)).toNat) (sg:=bo 5) (s:=jK)
    (λi B=>∃o5,B=[J p,J (.lst us),J _,J (.lst vs),J (.int a),o5])
    (λi u B hu h00=>by
     obtain⟨o5,hr⟩:=h00;subst hr;obtain⟨b,Oe,rfl⟩:=qJ (Ċ hu);have Zr:a+1+b<us.length:=by lia
     have eb:((a:Int)+1+(b:Nat))=((a+1+b:Nat):Int):=by lia
     rw[eb];have m1:=mk ha1;have m2:=mk Zr;have v1:vs[a]? = J vs[a]:=á (by lia);have v2:vs[a+1+b]? = J _:=á (by lia);have ta:=ha vs[a] (ĩ _) vs[a+1+b] (ĩ _);refine⟨_,_,uM,.inl ?_,J (.int (a+1+b:Nat)),rfl⟩;unfold jK;simp only[Pzz,yh,m1,m2,v1,v2,ta,beq_self_eq_true,id])
    (B:=[J p,J (.lst us),J (.lst (ù us.length (.int 0))),J (.lst vs),J (.int a),o5]) ⟨_,rfl⟩
   have rg:∀B ,Y_ [.int ((a:Int)+1),.int (us.length:Nat)] B=.ok _:=λB=>Yc (by lia);refine⟨_,_,uM,.inl ?_,J (.int a),q5,rfl⟩;unfold jL;simp only[Pzz,<-hv,UX,rg,e2])
  (B:=[J p,J (.lst us),J _,J (.lst vs),L,L]) ⟨_,_,rfl⟩
 have el':=el hv h (x:=J (.lst us)) (y:=J (.lst (ù us.length (.int 0))));unfold iJ kW;simp only[Pzz,fB,Nat.reduceAdd,el',<-hv,zm us.length (by lia),e1]
theorem NT {vs:List U}(hl:us.length<=1000)(hv:us.length=vs.length)(h:∀(i:Nat) u,us[i]? = J u->∃v,vs[i]? = J v/\dJ [p,u]=.ok v)(ha:∀v∈vs,∀v'∈vs,ei [v,v']=.ok (.bl M)):tO [p,.lst us]=.ok (.tup [.str "quiet"]):=by
 have bk:=UY hl hv h ha;have ml:=NR (u:=.int 0) (n:=(us.length:Nat)) (by lia) (by lia);rw[ĝ] at ml;unfold tO zK;simp only[Pzz,fB,Nat.reduceAdd,Nat.reduceSub,ml,bk]
noncomputable def Yd:U->Int
 | .int i=>i
 |_=>0
def gz:U->List Int
 | .tup us=>us.map Yd
 |_=>[]
def qK:U->List (List Int)
 | .tup us=>us.map gz
 |_=>[]
def Ye:U->List Int×U
 | .tup [k,p]=>(gz k,p)
 |_=>([],.non)
def nj:U->List (List Int×U)
 | .tup us=>us.map Ye
 |_=>[]
noncomputable def Za (n:Nat)(ps:List Int):Bool:=ps.all (λi=>decide (0<=i/\i<n)) && !ps.isEmpty&&decide (ps.length<=1000)
theorem NU {ps:List Int}(h:Za n ps=Z):(∀i∈ps,0<=i/\i<n)/\ps≠[]/\ps.length<=1000:=by
 unfold Za at h;grind
def Zb (n:Nat)(os:List (List Int)):Bool:=decide (1<=n)&&decide (n<=8)&&os.all (λo=>o.isPerm (gZ n))&&decide (1<=os.length)&&decide (os.length<=24)
theorem NV {os:List (List Int)}(h:Zb n os=Z):Sf n os:=by
 unfold Zb at h;rw[ß,ß,ß,ß,ì] at h;obtain⟨⟨⟨⟨a,b⟩,c⟩,d⟩,e⟩:=h;exact⟨of_decide_eq_true a,of_decide_eq_true b,λo ho=>List.isPerm_iff.mp (c o ho),of_decide_eq_true d,of_decide_eq_true e⟩
noncomputable def NW (ws:List (List Int×U))(s:List Int):U:=((ws.find? λw=>decide (w.1=s)).map (·.2)).getD .non
def CU:Nat->U->List Int->List Pa
 |0,_,_=>[]
 |f+1,.tup [.str _,x],r=>[([],.fin (aK r (gz x)),1)]
 |f+1,.tup [.str k,x,q],r=>if k="lay" then ([],.lay,1)::CU f q (aK r (gz x)) else if k="mix" then ([],.mix,1)::(qK x).flatMap λo=>(CU f q (aK r o)).map λy=>(y.1,y.2.1,y.2.2*(qK x).length)
   else ([],.look,1)::(CU f (NW (nj q) (aK r (gz x))) r).map λy=>(aK r (gz x)::y.1,y.2)
 |_,_,_=>[]
noncomputable def QC:List (Option Nat)->Option Nat
 | []=>J 0
 |none::_=>L
 |some a::l=>(QC l).map (a+·)
def okQ (n:Nat)(c:Int)(F:Nat->U->List (List Int)->Option Nat)(h:Nat)(rs:List (List Int)):U->Option Nat
 | .tup [.str k,x]=>if k="end"/\qS x (rowU (gz x))=Z/\Za n (gz x)=Z then J 1 else L
 | .tup [.str k,x,q]=>if k="lay" then (if qS x (rowU (gz x))=Z/\Zb n [gz x]=Z then (F h q (rs.map λr=>aK r (gz x))).map (·+1) else L)
  else if k="mix" then (match h with
   |0=>L
   |h+1=>if qS x (SU (qK x))=Z/\Zb n (qK x)=Z/\decide (c % (qK x).length=0)=Z then (F h q (rs.flatMap λr=>(qK x).map λo=>aK r o)).map (·+1) else L)
  else if k="look" then (if qS x (rowU (gz x))=Z/\Za n (gz x)=Z/\qS q (.tup ((nj q).map zz))=Z/\decide ((nj q).length<=1000)=Z/\decide (((nj q).map (·.1)).Nodup)=Z/\rs.all (λr=>((nj q).map (·.1)).contains (aK r (gz x)))=Z then
   (QC (((nj q).map (·.1)).map λs=>F h (NW (nj q) s) (rs.filter λr=>decide (aK r (gz x)=s)))).map (·+1) else L)
  else L
 |_=>L
def Sm (n:Nat)(c:Int):Nat->Nat->U->List (List Int)->Option Nat
 |0=>λ_ _ _=>L
 |f+1=>λh p rs=>okQ n c (Sm n c f) h rs p
theorem G_ {g:List Int->Option Nat}:∀{l:List (List Int)} {z:Nat},QC (l.map g)=J z->(∀s∈l,∃a,g s=J a)/\z=(l.map λs=>(g s).getD 0).sum
 | [],z,h=>by
  grind[QC]
 |s::l,z,h=>by
  rw[Ç] at h;cases e:g s with
  |none=>rw[e] at h;cases h
  |some a=>
   rw[e] at h;obtain⟨b,e2,e3⟩:=Ţ.mp h;obtain⟨i1,i2⟩:=G_ e2;grind
theorem Wk.weak {h:Nat}{S':List Int->Prop}(H:Wk n c h z p S Lk)(hS:∀r,S' r->S r):Wk n c h z p S' Lk:=by
 induction H generalizing S' with
 |fin a b d=>exact .fin a b d
 |aga=>exact .aga
 |lay a b d ih=>exact .lay a b λr hr=>d r (hS r hr)
 |mix a b d e ih=>exact .mix a b d λr hr=>e r (hS r hr)
 |look a b d e f g i ih=>exact .look a b d e (λr hr=>f r (hS r hr)) (λw hw=>ih w hw λr hr=>⟨hS r hr.1,hr.2⟩) i
theorem QD (nd:(ws.map (·.1)).Nodup):∀w∈ws,NW ws w.1=w.2:=by
 induction ws with
 |nil=>simp
 |cons x ws ih=>
  intro w hw;rw[Ç] at nd;obtain⟨n1,n2⟩:=ø.mp nd;unfold NW;rw[Ŝ];rcases Ø.mp hw with rfl|hw
  ·simp
  ·rw[hV (λz=>n1 (by rw[z];exact ÿ hw))];exact ih n2 w hw
theorem wL {n:Nat}{c:Int}:∀{f h:Nat} {p:U} {rs:List (List Int)} {z:Nat},Sm n c f h p rs=J z->Wk n c h z p (·∈rs) (CU f p)
 |0,h,p,rs,z,e=>(nomatch (e:L=J z))
 |f+1,h,p,rs,z,e=>by
  replace e:okQ n c _ h rs p=J z:=e
  unfold okQ at e;split at e
  ·split at e
   ·rename_i c1;cases e;obtain⟨rfl,c2,c3⟩:=c1;have c2:=mG c2;obtain⟨a,b,d⟩:=NU c3;have w:=Wk.fin (c:=c) (h:=h) (S:=(·∈rs)) a b d;rw[<-c2] at w;exact w
   ·cases e
  ·rename_i k x q;split at e
   ·rename_i c1;subst c1;split at e
    ·rename_i c2;obtain⟨z',e1,rfl⟩:=Ţ.mp e;have ih:=wL e1;have w:=Wk.lay (NV c2.2) ih λr hr=>ÿ hr;rw[<-mG c2.1] at w;exact w
    ·cases e
   ·split at e
    ·rename_i c1;subst c1;split at e
     ·cases e
     ·split at e
      ·rename_i c2;obtain⟨z',e1,rfl⟩:=Ţ.mp e;have ih:=wL e1;have w:=Wk.mix (NV c2.2.1) (Int.dvd_of_emod_eq_zero (of_decide_eq_true c2.2.2)) ih λr hr o ho=>ũ.mpr ⟨r,hr,ÿ ho⟩;rw[<-mG c2.1] at w;exact w
      ·cases e
    ·split at e
     ·rename_i c1;subst c1;split at e
      ·rename_i c2;obtain⟨d1,d2,d3,d4,d5,d6⟩:=c2;obtain⟨z',e1,rfl⟩:=Ţ.mp e;obtain⟨s1,s2⟩:=G_ e1;obtain⟨p1,p2,p3⟩:=NU d2;have nd:=of_decide_eq_true d5;have w:=Wk.look (z:=z'+1) (ZQ:=λs=>(Sm n c f h _ (rs.filter λr=>decide (aK r (gz x)=s))).getD 0) (Lk:=λs=>CU f (NW _ s)) p1 p3 (of_decide_eq_true d4) nd
        (λr hr=>List.contains_iff_mem.mp (ì.mp d6 r hr)) (λw hw=>by
         obtain⟨a,ea⟩:=s1 w.1 (ÿ hw);have ih:=wL ea;rw[ea];rw[QD nd w hw] at ih |-;exact ih.weak λr hr=>List.mem_filter.mpr ⟨hr.1,hJ hr.2⟩) (by rw[s2,Nat.add_comm])
       rw[<-mG d1,<-mG d3] at w;exact w
      ·cases e
     ·cases e
  ·cases e
noncomputable def So:R U->Bool
 | .ok _=>Z
 |_=>M
noncomputable def Sq:R U->U
 | .ok u=>u
 |_=>.non
theorem CG {r:R U}(h:So r=Z):r=.ok (Sq r):=by
 cases r<;>first|rfl|cases h
theorem fT {α β:Type}{f g:α->β}:∀{l:List α},l.map f=l.map g->∀x∈l,f x=g x
 | [],_,x,h=>by cases h
 |y::l,e,x,h=>by
  injection e with e1 e2
  rcases Ø.mp h with rfl|h
  ·exact e1
  ·exact fT e2 x h
noncomputable abbrev sU:=Nat×Nat×Nat
noncomputable def iy (n:Nat):List sU:=((ā n).flatMap λa=>(ā n).flatMap λb=>(ā n).map λc=>(a,b,c)).filter λt=>t.1 != t.2.1&&t.1 != t.2.2&&t.2.1 != t.2.2
def QE {a b c:Nat}(ha:a<n)(hb:b<n)(hc:c<n)(h1:a≠b)(h2:a≠c)(h3:b≠c):(a,b,c)∈iy n:=by
 unfold iy;rw[List.mem_filter];refine⟨ũ.mpr ⟨a,Ź.mpr ha,ũ.mpr ⟨b,Ź.mpr hb,Ú.mpr ⟨c,Ź.mpr hc,rfl⟩⟩⟩,?_⟩;simp[h1,h2,h3]
noncomputable def ma (t:sU):U:=.lst [.int t.1,.int t.2.1,.int t.2.2]
def NY {d:D}(h:tq u=J d)(hd:fI d<=30):pW u u=.ok Z:=by
 simp_all[pW,h_,uf]
def QF (r:List Int):tq (rowU r)=J (.tup (r.map .int)):=by unfold rowU tq;rw[yi];rfl
noncomputable abbrev Duo:=Nat×Nat
noncomputable def iN:List Duo:=[(0,0),(1,0),(0,1),(1,1)]
noncomputable def bU (q:Duo):U:=.tup [.int q.1,.int q.2]
noncomputable def bV (q:Duo):U:=.tup [.int q.1,.int q.2,.int 0]
noncomputable def QG (xs:List Int)(k:Nat)(b:Int):List Int:=(xs.set (2*k) b).set (2*k+1) (1-b)
def cQ (t:sU)(q:Duo)(xs:List Int):List Int:=QG (QG (QG xs t.1 q.1) t.2.1 q.2) t.2.2 0
def NL (m a:Nat):U:=Sq (cF [.int m,.int a])
def FL (m:Nat)(a b:U):U:=Sq (bA [.int m,a,b])
def EL (m:Nat)(a:U):U:=Sq (bF [.int m,a])
def AL (m:Nat)(t:sU):U:=Sq (tN [.int m,.int t.1,.int t.2.1,.int t.2.2])
def OL (m a b:Nat):U:=Sq (jI [.int m,.int a,.int b])
def KL (m:Nat)(t:sU):U:=Sq (kR [.int m,.int t.1,.int t.2.1,.int t.2.2])
def BL (m:Nat)(t:sU):U:=FL m (NL m t.2.1) (AL m t)
def CL (m:Nat)(t:sU):U:=FL m (NL m t.1) (BL m t)
def DL (m:Nat)(t:sU):U:=FL m (CL m t) (NL m 0)
def PE (m:Nat)(t:sU):U:=EL m (DL m t)
def PO (m a b:Nat):U:=EL m (OL m a b)
def TL (m a:Nat):U:=FL m (NL m a) (NL m a)
def GL (m:Nat)(t:sU):U:=FL m (KL m t) (OL m 0 1)
def PF (m:Nat)(t:sU):U:=EL m (GL m t)
noncomputable def pr (b:Nat):List Int:=[b,1-b]
def dE (q:Duo):List Int:=pr (max q.1 q.2)
def dO (q:Duo):List Int:=pr ((q.1+q.2) % 2)
noncomputable def dF (_:Duo):List Int:=[0,1]
def base (m:Nat)(P:U)(t:sU):List Pa:=CU 20 P (cQ t (0,0) (ù m 0))
noncomputable def duL (d:List Int)(Lk:List Pa):Bool:=Lk.all λx=>match x.2.1 with
 | .fin r=>decide (r=d)
 |_=>Z
structure Yf (m:Nat)(t:sU)(Q:List Duo)(P:U)(due:Duo->List Int):Prop where
 pos:0<mn 4 (base m P t) 0
 pa:∀q∈Q,∀xs:List Int,xs.length=m->duL (due q) (CU 20 P (cQ t q xs))=Z
 pm:∀q∈Q,∀xs:List Int,xs.length=m->((CU 20 P (cQ t q xs)).map NO).isPerm ((base m P t).map NO)=Z
 ok:∀q∈Q,∀xs:List Int,xs.length=m->∃z,z<=63/\Sm m 2 20 2 P [cQ t q xs]=J z
noncomputable def Zc:Option Nat->Bool
 |some z=>decide (z<=63)
 |none=>M
theorem E8 {o:Option Nat}(h:Zc o=Z):∃z,z<=63/\o=J z:=by
 cases o with
 |none=>cases h
 |some z=>exact⟨z,of_decide_eq_true h,rfl⟩
def i4 (m:Nat)(t:sU):List (U×List Duo×(Duo->List Int)):=[(PE m t,iN,dE),(PO m t.1 t.2.1,iN,dO),(PO m t.2.1 t.1,iN,dO),(PF m t,[(0,0),(1,0)],dF)]
def Sr (m:Nat)(t:sU)(xs:List Int)(x:U×List Duo×(Duo->List Int)):Bool:=decide (0<mn 4 (base m x.1 t) 0)&&x.2.1.all λq=>duL (x.2.2 q) (CU 20 x.1 (cQ t q xs))&&(((CU 20 x.1 (cQ t q xs)).map NO).isPerm ((base m x.1 t).map NO)&&Zc (Sm m 2 20 2 x.1 [cQ t q xs]))
def plT (H:∀xs:List Int,xs.length=m->(iy n).all (λt=>(i4 m t).all (Sr m t xs))=Z):∀t∈iy n,∀x∈i4 m t,Yf m t x.2.1 x.1 x.2.2:=λt ht x hx=>by
 have a:=λxs hl=>Bool.and_eq_true_iff.mp (ì.mp (ì.mp (H xs hl) t ht) x hx);have b:=λq (hq:q∈x.2.1) xs hl=>Bool.and_eq_true_iff.mp (ì.mp (a xs hl).2 q hq);exact⟨of_decide_eq_true (a (ù m 0) ϒ).1,λq hq xs hl=>(b q hq xs hl).1,λq hq xs hl=>(Bool.and_eq_true_iff.mp (b q hq xs hl).2).1,λq hq xs hl=>E8 (Bool.and_eq_true_iff.mp (b q hq xs hl).2).2⟩
def nq {f:sU->R U}(h:(iy n).all (λt=>So (f t))=Z):∀t∈iy n,f t=.ok (Sq (f t)):=λt ht=>CG (ì.mp h t ht)
variable {due:Hc.Duo->List Int}
theorem UZ {ks:List (List Int)}(h:ks≠[])(ln:ks.length<64)(hr:∀k∈ks,k≠[]):oC [.dct (ks.map rowU) us]=.ok (.lst ((oA ks).map rowU)):=by
 have w:rJ (ks.map rowU)=Z:=by
  unfold rJ;have:(ks.map rowU).all Ue=Z:=ì.mpr λu hu=>by
   obtain⟨k,_,rfl⟩:=Ú.mp hu;rfl
  simp[*]
 unfold oC;show vp [.dct (ks.map rowU) us]=_;simp_all[vp,h_,iR,wy]
def wM {t:sU}{q:Duo}{xs:List Int}:(cQ t q xs).length=xs.length:=by
 unfold cQ QG;simp only[ġ]
def U0 (i:Nat)(t:Tr)(k:Kd):ind i t k=(λ_ j=>if j=i then 1 else 0:Tr->Nat->Int) t k.ix:=rfl
theorem NZ {t:sU}{Q:List Duo}{P:U}(H:Yf m t Q P due){q:Duo}(hq:q∈Q){xs:List Int}(hl:xs.length=m):∃z,Gd m 2 2 z 4 P (·∈[cQ t q xs]) (CU 20 P):=by
 obtain⟨z,hz,e⟩:=H.ok q hq xs hl;exact⟨z,wL e,λr hr=>by simp_all[Ą,wM],by decide,by decide,by decide,by decide,hz⟩
def Av {t:sU}{Q:List Duo}{P:U}(H:Yf m t Q P due){q:Duo}(hq:q∈Q){xs:List Int}(hl:xs.length=m)(i:Nat):mn 4 (CU 20 P (cQ t q xs)) i=mn 4 (base m P t) i:=
 NP (λ_ j=>if j=i then 1 else 0) (U0 i) (List.isPerm_iff.mp (H.pm q hq xs hl))
theorem Su {D:Int}(h0:0<D)(h1:D<=63){Lk:List Pa}:∀E,Ws m D Lk E->∀e∈E,(lT e).length<64:=λE w e he=>by
 obtain⟨sn,hd,_⟩:=w.ok.el e he;obtain⟨_,a2,_,a4,_⟩:=o_ w.ok he;have:=d7 a2;have:=sn.le;have:=Int.le_of_dvd h0 hd;lia
def U1 {a b:List U}(h:ga B=.ok ([.lst a,.lst b],B)):yB ga B=.ok (.lst (Ā (λa b=>.tup [a,b]) a b),B):=by
 have:sx ga B=.ok (Ā (λa b=>.tup [a,b]) a b,B):=by
  unfold sx;rw[h];rfl
 unfold yB;rw[this];rfl
def Yg:pW (.tup [.str "right"]) (.tup [.str "right"])=.ok Z:=nr (by kernel_rfl)
def Yh:pW (.tup [.str "quiet"]) (.tup [.str "quiet"])=.ok Z:=nr (by kernel_rfl)
theorem lU {t:sU}{Q:List Duo}{P:U}(H:Yf m t Q P due){qs:List (Duo×List Int)}(hl:qs.length<=1000)(hq:∀x∈qs,x.1∈Q/\x.2.length=m) :
  cf [P,.lst (qs.map λx=>rowU (cQ t x.1 x.2)),.lst (qs.map λx=>rowU (due x.1))]=.ok (.bl Z):=by
 have ju:kY [P,.lst (Ā (λa b=>.tup [a,b]) (qs.map λx=>rowU (cQ t x.1 x.2)) (qs.map λx=>rowU (due x.1)))]=.ok (.tup [.str "right"]):=by
  refine Jz λd hd=>?_;rw[List.zipWith_map,List.zipWith_self] at hd;obtain⟨x,hx,rfl⟩:=Ú.mp hd;obtain⟨h1,h2⟩:=hq x hx;obtain⟨z,G⟩:=NZ H h1 h2;refine⟨_,_,rfl,NM G Ï (by rw[Av H h1 h2];exact H.pos) (Su (by decide) (by decide)) λy hy r hr=>?_⟩;have:=ì.mp (H.pa x.1 h1 x.2 h2) y hy;lia
 have all:∀qs:List (Duo×List Int),(∀x∈qs,x.1∈Q/\x.2.length=m)->∃vs:List U,(qs.map λx=>rowU (cQ t x.1 x.2)).length=vs.length/\(∀(i:Nat) u,(qs.map λx=>rowU (cQ t x.1 x.2))[i]? = J u->∃v,vs[i]? = J v/\dJ [P,u]=.ok v)/\
   ∀v∈vs,∃x:Duo×List Int,x.1∈Q/\x.2.length=m/\∃E,Ws m 4 (CU 20 P (cQ t x.1 x.2)) E/\E≠[]/\v=vU 4 (mn 4 (base m P t) 0) (mn 4 (base m P t) 4) E:=by
  intro qs
  induction qs with
  |nil=>exact λ_=>⟨[],rfl,λi u h=>(by simp at h),λv hv=>(by cases hv)⟩
  |cons x qs ih=>
   intro h;obtain⟨vs,a,b,c⟩:=ih λy hy=>h y (Ö _ hy);obtain⟨h1,h2⟩:=h x Ï;obtain⟨z,G⟩:=NZ H h1 h2;obtain⟨E,e1,e2,e3⟩:=QB G Ï (by rw[Av H h1 h2];exact H.pos);rw[Av H h1 h2,Av H h1 h2] at e3;refine⟨vU 4 (mn 4 (base m P t) 0) (mn 4 (base m P t) 4) E::vs,by rw[Ç,Ù,Ù,a],λi u hu=>?_,λv hv=>?_⟩
   ·cases i with
    |zero=>cases hu;exact⟨_,rfl,e3⟩
    |succ i=>exact b i u hu
   ·rcases Ø.mp hv with rfl|hv
    ·exact⟨x,h1,h2,E,e1,e2,rfl⟩
    ·exact c v hv
 obtain⟨vs,a,b,c⟩:=all qs hq;have qu:=NT (by rw[Ê];exact hl) a b λv hv v' hv'=>by
  obtain⟨x,h1,h2,E,e1,e2,rfl⟩:=c v hv;obtain⟨y,g1,g2,E',d1,d2,rfl⟩:=c v' hv';exact NQ (by decide) e1 d1 e2 d2 ((List.isPerm_iff.mp (H.pm x.1 h1 x.2 h2)).trans (List.isPerm_iff.mp (H.pm y.1 g1 y.2 g2)).symm)
 unfold cf jN;have zl:yB (ag (ah 1) (ag (ah 2) ar)) _=.ok (.lst (Ā _ (qs.map λx=>rowU (cQ t x.1 x.2)) (qs.map λx=>rowU (due x.1))),[J P,J (.lst (qs.map λx=>rowU (cQ t x.1 x.2))),J (.lst (qs.map λx=>rowU (due x.1)))]):=U1 (by rfl);simp only[Pzz,fB,Nat.reduceAdd,Nat.reduceSub,zl,ju,qu,Yg,Yh,id]
def JA {α:Type}{a:α}:∀{l:List α},l.Nodup->(∀x∈l,x=a)->l≠[]->l=[a]
 | [],_,_,h=>absurd rfl h
 | [x],_,h,_=>by rw[h x Ï]
 |x::y::l,nd,h,_=>by
  have e1:=h x Ï;have e2:=h y (Ö _ Ï);rw[e1,e2] at nd;exact absurd Ï (ø.mp nd).1
theorem Hd {x:Int}(h:0<x):bE x x=(1,1):=wz (by decide) (by decide) (by lia) h (by decide) (by lia)
theorem CH {h:Nat}{D:Int}(G:Gd n c h z D p S Lk){r d:List Int}(hr:S r)(he:0<mn D (Lk r) 0)(sl:∀E,Ws n D (Lk r) E->∀e∈E,(lT e).length<64)(hd:∀x∈Lk r,∀y,x.2.1=.fin y->x.1=[]/\y=d)(dn:d≠[])(hx:pv D 1 [] (fg λ_ _=>1) (Lk r)=mn D (Lk r) 0) :
  jh [p,rowU r]=.ok (.lst [.tup [rowU d,.tup [.int 1,.int 1]]]):=by
 obtain⟨E,w,e⟩:=yN G hr he sl;have ad:=G6 G.d0 w (P:=λt x=>t=[]/\x=d) hd;have Vv:=w.fn λ_ _=>1;rw[hx] at Vv;have tr:=λe pK=>by
  obtain⟨sn,_⟩:=w.ok.el e pK;cases hW:e.2.2.2 with
  |nil=>exact absurd hW sn.ne
  |cons p W'=>exact (ad e pK p (by rw[hW];exact Ï)).1
 obtain⟨e0,rfl⟩:∃e0,E=[e0]:=by
  match E,w,tr,Vv with
  | [],_,_,s=>grind
  | [e0],_,_,_=>lia
  |a::b::E',w,tr,_=>
   have nd:=w.ok.nd;grind
 have m0:e0∈[e0]:=Ï;obtain⟨b1,b2,b3,b4,b5,b6,_⟩:=o_ w.ok m0;have ks:=JA b1 (λk hk=>by
  obtain⟨q,hq,rfl⟩:=b6 k hk;exact (ad e0 m0 q hq).2) λz=>b5 (List.map_eq_nil_iff.mp z)
 obtain⟨v,hv⟩:∃v,lT e0=[(d,v)]:=by
  simp_all
 have v1:=b2 (d,v) (by rw[hv];exact Ï);have ru:Sl e0=[.tup [rowU d,.tup [.int 1,.int 1]]]:=by
  unfold Sl;have g:l_ (lT e0) d=v:=by rw[hv,jk,h_ rfl]
  have tt:bT (lT e0)=v:=by rw[hv];show v+0=v;lia
  rw[ks,show oA [d]=[d] from rfl,Ç,g,tt,Hd (by lia)];rfl
 have xe:xE D e0=mn D (Lk r) 0:=by
  simp_all[NG,xE,d8,Int.add_zero,Int.mul_one]
 have so:(rP ([e0].map (Oj D (mn D (Lk r) 0)))).map B0=[.tup [.tup [],.tup [.int 1,.int 1],.lst [.tup [rowU d,.tup [.int 1,.int 1]]]]]:=by
  have t0:=tr e0 m0;have z:Oj D (mn D (Lk r) 0) e0=([],[.int 1,.int 1],[.tup [rowU d,.tup [.int 1,.int 1]]]):=by
   unfold Oj;rw[t0,xe,Hd he,ru]
  rw[Ç,z];rfl
 rw[so] at e;have pl:cE [.tup [.int 0,.int 1],.tup [.int 1,.int 1]]=.ok (.tup [.int 1,.int 1]):=by kernel_rfl
 have tm:zD [.tup [.int 1,.int 1],.tup [.int 1,.int 1]]=.ok (.tup [.int 1,.int 1]):=by kernel_rfl
 have st:∀o3 o4 o5 o6 o7 ,gU (cg 3 (aD (bo 3) (aD (bo 4) (aD (bo 5) bO)))) ig [.tup [.tup [],.tup [.int 1,.int 1],.lst [.tup [rowU d,.tup [.int 1,.int 1]]]]] [J p,J (rowU r),J (.dct [] []),o3,o4,o5,o6,o7]=.nx [J p,J (rowU r),J (.dct [rowU d] [.tup [.int 1,.int 1]]),J (.tup []),J (.tup [.int 1,.int 1]),J (.lst [.tup [rowU d,.tup [.int 1,.int 1]]]),J (rowU d),J (.tup [.int 1,.int 1])]:=by
  intro o3 o4 o5 o6 o7;have dg:∀B ,XZ (rowU d) _ B (J (J (.dct [] [])))=.ok (.tup [.int 0,.int 1],B):=λB=>by
   unfold XZ;dsimp only;rw[h_ (by have:=CA [] d;exact this)];rfl
  have dg0:∀(g2 g3:Ev->R (U×Ev)) (B:Ev),dgA 2 g2 g3 B (J (J (.dct [] [])))=(g2 B).bind _:=λ_ _ _=>rfl;have dp:∀B ,UI 2 _ (rowU d) B (J (J (.dct [] [])))=.nx (B.set 2 (J (.dct [rowU d] [.tup [.int 1,.int 1]]))):=λB=>by
   unfold UI;dsimp only;rw[h_ ⟨by have:=CA [] d;exact this,by decide⟩];rfl
  have l0:∀o6 o7:Option U,jM [J p,J (rowU r),J (.dct [] []),J (.tup []),J (.tup [.int 1,.int 1]),J (.lst [.tup [rowU d,.tup [.int 1,.int 1]]]),J (rowU d),J (.tup [.int 1,.int 1])]=.nx [J p,J (rowU r),J (.dct [rowU d] [.tup [.int 1,.int 1]]),J (.tup []),J (.tup [.int 1,.int 1]),J (.lst [.tup [rowU d,.tup [.int 1,.int 1]]]),J (rowU d),J (.tup [.int 1,.int 1])]:=λ_ _=>by
   unfold jM;simp only[Pzz,Nat.reduceAdd,tS,dg0,dg,tm,pl,wu,dp]
  have l1:ig [J p,J (rowU r),J (.dct [] []),J (.tup []),J (.tup [.int 1,.int 1]),J (.lst [.tup [rowU d,.tup [.int 1,.int 1]]]),o6,o7]=.nx [J p,J (rowU r),J (.dct [rowU d] [.tup [.int 1,.int 1]]),J (.tup []),J (.tup [.int 1,.int 1]),J (.lst [.tup [rowU d,.tup [.int 1,.int 1]]]),J (rowU d),J (.tup [.int 1,.int 1])]:=by
   unfold ig;simp only[aT,Nat.reduceSub];unfold gU;show (match jM [J p,J (rowU r),J _,J (.tup []),J _,J _,J (rowU d),J _] with|.nx B2=>_|.ct B2=>_|.bk B2=>_|r=>r)=_;rw[l0 o6 o7];rfl
  unfold gU;show (match ig [J p,J (rowU r),J _,J (.tup []),J _,J _,o6,o7] with|.nx B2=>_|.ct B2=>_|.bk B2=>_|r=>r)=_;rw[l1];rfl
 have ps:oC [.dct [rowU d] [.tup [.int 1,.int 1]]]=.ok (.lst [rowU d]):=by
  exact UZ (ks:=[d]) (by simp) (show 1<64 by decide) (λp hp=>by grind)
 have dx:gj (.dct [rowU d] [.tup [.int 1,.int 1]]) (rowU d)=.ok (.tup [.int 1,.int 1]):=by
  unfold gj;dsimp only;rw[h_ (by have:=CA [d] d;exact this)];unfold bR;rw[h_ rfl]
 have el:=jm (f:=HZ [L,J 2] (bo 0) dN (aU (ag (ah 0) (ag (aS gj (ah 1) (ah 0)) ar))) [J p,J (rowU r),J (.dct [rowU d] [.tup [.int 1,.int 1]]),J (.tup []),J (.tup [.int 1,.int 1]),J (.lst [.tup [rowU d,.tup [.int 1,.int 1]]]),J (rowU d),J (.tup [.int 1,.int 1])]) (c:=rowU) (g:=λk=>.tup [rowU k,.tup [.int 1,.int 1]]) (xs:=[d]) λk hk=>by
  rw[Ą] at hk;subst hk;simp only[Pzz,Nat.reduceAdd,dx]
 unfold jh qj;simp only[d9,Nat.reduceSub] at el;simp only[Pzz,fB,e,st,Nq,ps,el,Nr]
def pt (k:Nat):List sU:=((iy 4).drop (6*k)).take 6
def aat:∀(x0 x1 x2 x3 x4 x5:Int),(iy 3).all (λt=>(i4 6 t).all (Sr 6 t [x0,x1,x2,x3,x4,x5]))=Z:=by intros;kernel_rfl
theorem pl6:∀xs:List Int,xs.length=6->(iy 3).all (λt=>(i4 6 t).all (Sr 6 t xs))=Z:=λxs hl=>match xs,hl with
 | [x0,x1,x2,x3,x4,x5],_=>aat _ _ _ _ _ _
def aau:∀(x0 x1 x2 x3 x4 x5 x6 x7:Int),(pt 0).all (λt=>(i4 8 t).all (Sr 8 t [x0,x1,x2,x3,x4,x5,x6,x7]))=Z:=by intros;kernel_rfl
def aav:∀(x0 x1 x2 x3 x4 x5 x6 x7:Int),(pt 1).all (λt=>(i4 8 t).all (Sr 8 t [x0,x1,x2,x3,x4,x5,x6,x7]))=Z:=by intros;kernel_rfl
def aaw:∀(x0 x1 x2 x3 x4 x5 x6 x7:Int),(pt 2).all (λt=>(i4 8 t).all (Sr 8 t [x0,x1,x2,x3,x4,x5,x6,x7]))=Z:=by intros;kernel_rfl
def aax:∀(x0 x1 x2 x3 x4 x5 x6 x7:Int),(pt 3).all (λt=>(i4 8 t).all (Sr 8 t [x0,x1,x2,x3,x4,x5,x6,x7]))=Z:=by intros;kernel_rfl
theorem pl8:∀xs:List Int,xs.length=8->(iy 4).all (λt=>(i4 8 t).all (Sr 8 t xs))=Z:=λxs hl=>match xs,hl with
 | [x0,x1,x2,x3,x4,x5,x6,x7],_=>by
  have e:iy 4=pt 0++(pt 1++(pt 2++pt 3)):=by kernel_rfl
  rw[e,List.all_append,List.all_append,List.all_append,aau,aav,aaw,aax];rfl
structure U2 (m n:Nat):Prop where
 an:∀t∈iy n,tN [.int m,.int t.1,.int t.2.1,.int t.2.2]=.ok (AL m t)
 n1:∀t∈iy n,cF [.int m,.int t.1]=.ok (NL m t.1)
 n2:∀t∈iy n,cF [.int m,.int t.2.1]=.ok (NL m t.2.1)
 n0:cF [.int m,.int 0]=.ok (NL m 0)
 b1:∀t∈iy n,bA [.int m,NL m t.2.1,AL m t]=.ok (BL m t)
structure U3 (m n:Nat):Prop where
 c1:∀t∈iy n,bA [.int m,NL m t.1,BL m t]=.ok (CL m t)
structure U4 (m n:Nat):Prop where
 d1:∀t∈iy n,bA [.int m,CL m t,NL m 0]=.ok (DL m t)
structure U5 (m n:Nat):Prop where
 e1:∀t∈iy n,bF [.int m,DL m t]=.ok (PE m t)
 o1:∀t∈iy n,jI [.int m,.int t.1,.int t.2.1]=.ok (OL m t.1 t.2.1)
 o2:∀t∈iy n,jI [.int m,.int t.2.1,.int t.1]=.ok (OL m t.2.1 t.1)
 o3:jI [.int m,.int 0,.int 1]=.ok (OL m 0 1)
structure U6 (m n:Nat):Prop where
 p1:∀t∈iy n,bF [.int m,OL m t.1 t.2.1]=.ok (PO m t.1 t.2.1)
 p2:∀t∈iy n,bF [.int m,OL m t.2.1 t.1]=.ok (PO m t.2.1 t.1)
 t1:∀t∈iy n,bA [.int m,NL m t.1,NL m t.1]=.ok (TL m t.1)
 k1:∀t∈iy n,kR [.int m,.int t.1,.int t.2.1,.int t.2.2]=.ok (KL m t)
structure U7 (m n:Nat):Prop where
 g1:∀t∈iy n,bA [.int m,KL m t,OL m 0 1]=.ok (GL m t)
structure U8 (m n:Nat):Prop where
 f1:∀t∈iy n,bF [.int m,GL m t]=.ok (PF m t)
structure VN (m n:Nat):Prop extends U2 m n,U3 m n,U4 m n,U5 m n,U6 m n,U7 m n,U8 m n where
 row:∀t∈iy n,∀q∈iN,∀xs:List Int,xs.length=m->∀s,D0 (XT [J s,J (.int m),J (ma t),J (bV q),J (.lst (xs.map .int)),L,L])=.ok (rowU (cQ t q xs),s)
 pl:∀t∈iy n,∀x∈i4 m t,Yf m t x.2.1 x.1 x.2.2
 tp:∀t∈iy n,∀q∈iN,∀xs:List Int,xs.length=m->CU 20 (TL m t.1) (cQ t q xs)=[([],.lay,1),([],.fin (cQ t q xs),1)]
 tk:∀t∈iy n,∀q∈iN,∀xs:List Int,xs.length=m->∃z,z<=63/\Sm m 2 20 2 (TL m t.1) [cQ t q xs]=J z
 m1:1<=m
def aay:U2 6 3:=⟨nq (by kernel_rfl),nq (by kernel_rfl),nq (by kernel_rfl),CG (by kernel_rfl),nq (by kernel_rfl)⟩
def aaz:U3 6 3:=⟨nq (by kernel_rfl)⟩
def aaA:U4 6 3:=⟨nq (by kernel_rfl)⟩
def aaB:U5 6 3:=⟨nq (by kernel_rfl),nq (by kernel_rfl),nq (by kernel_rfl),CG (by kernel_rfl)⟩
def aaC:U6 6 3:=⟨nq (by kernel_rfl),nq (by kernel_rfl),nq (by kernel_rfl),nq (by kernel_rfl)⟩
def aaD:U7 6 3:=⟨nq (by kernel_rfl)⟩
def aaE:U8 6 3:=⟨nq (by kernel_rfl)⟩
theorem aaF:VN 6 3:=by
 have R:∀(x0 x1 x2 x3 x4 x5:Int) (s:U),(iy 3).map (λt=>iN.map λq=>D0 (XT [J s,J (.int (6:Nat)),J (ma t),J (bV q),J (.lst ([x0,x1,x2,x3,x4,x5].map .int)),L,L]))=(iy 3).map (λt=>iN.map λq=>.ok (rowU (cQ t q [x0,x1,x2,x3,x4,x5]),s)):=by intros;kernel_rfl
 have P:∀(x0 x1 x2 x3 x4 x5:Int),(iy 3).map (λt=>iN.map λq=>CU 20 (TL 6 t.1) (cQ t q [x0,x1,x2,x3,x4,x5]))=(iy 3).map (λt=>iN.map λq=>[([],.lay,1),([],.fin (cQ t q [x0,x1,x2,x3,x4,x5]),1)]):=by intros;kernel_rfl
 have C:∀(x0 x1 x2 x3 x4 x5:Int),(iy 3).map (λt=>iN.map λq=>Zc (Sm 6 2 20 2 (TL 6 t.1) [cQ t q [x0,x1,x2,x3,x4,x5]]))=(iy 3).map (λ_=>iN.map λ_=>Z):=by intros;kernel_rfl
 refine⟨aay,aaz,aaA,aaB,aaC,aaD,aaE,λt ht q hq xs hl s=>?_,plT pl6,λt ht q hq xs hl=>?_,λt ht q hq xs hl=>?_,by decide⟩
 ·match xs,hl with
  | [x0,x1,x2,x3,x4,x5],_=>exact fT (fT (R x0 x1 x2 x3 x4 x5 s) t ht) q hq
 ·match xs,hl with
  | [x0,x1,x2,x3,x4,x5],_=>exact fT (fT (P x0 x1 x2 x3 x4 x5) t ht) q hq
 ·match xs,hl with
  | [x0,x1,x2,x3,x4,x5],_=>exact E8 (fT (fT (C x0 x1 x2 x3 x4 x5) t ht) q hq)
def aaG:U2 8 4:=⟨nq (by kernel_rfl),nq (by kernel_rfl),nq (by kernel_rfl),CG (by kernel_rfl),nq (by kernel_rfl)⟩
def aaH:U3 8 4:=⟨nq (by kernel_rfl)⟩
def aaI:U4 8 4:=⟨nq (by kernel_rfl)⟩
def aaJ:U5 8 4:=⟨nq (by kernel_rfl),nq (by kernel_rfl),nq (by kernel_rfl),CG (by kernel_rfl)⟩
def aaK:U6 8 4:=⟨nq (by kernel_rfl),nq (by kernel_rfl),nq (by kernel_rfl),nq (by kernel_rfl)⟩
def aaL:U7 8 4:=⟨nq (by kernel_rfl)⟩
def aaM:U8 8 4:=⟨nq (by kernel_rfl)⟩
theorem aaN:VN 8 4:=by
 have R:∀(x0 x1 x2 x3 x4 x5 x6 x7:Int) (s:U),(iy 4).map (λt=>iN.map λq=>D0 (XT [J s,J (.int (8:Nat)),J (ma t),J (bV q),J (.lst ([x0,x1,x2,x3,x4,x5,x6,x7].map .int)),L,L]))=(iy 4).map (λt=>iN.map λq=>.ok (rowU (cQ t q [x0,x1,x2,x3,x4,x5,x6,x7]),s)):=by intros;kernel_rfl
 have P:∀(x0 x1 x2 x3 x4 x5 x6 x7:Int),(iy 4).map (λt=>iN.map λq=>CU 20 (TL 8 t.1) (cQ t q [x0,x1,x2,x3,x4,x5,x6,x7]))=(iy 4).map (λt=>iN.map λq=>[([],.lay,1),([],.fin (cQ t q [x0,x1,x2,x3,x4,x5,x6,x7]),1)]):=by intros;kernel_rfl
 have C:∀(x0 x1 x2 x3 x4 x5 x6 x7:Int),(iy 4).map (λt=>iN.map λq=>Zc (Sm 8 2 20 2 (TL 8 t.1) [cQ t q [x0,x1,x2,x3,x4,x5,x6,x7]]))=(iy 4).map (λ_=>iN.map λ_=>Z):=by intros;kernel_rfl
 refine⟨aaG,aaH,aaI,aaJ,aaK,aaL,aaM,λt ht q hq xs hl s=>?_,plT pl8,λt ht q hq xs hl=>?_,λt ht q hq xs hl=>?_,by decide⟩
 ·match xs,hl with
  | [x0,x1,x2,x3,x4,x5,x6,x7],_=>exact fT (fT (R x0 x1 x2 x3 x4 x5 x6 x7 s) t ht) q hq
 ·match xs,hl with
  | [x0,x1,x2,x3,x4,x5,x6,x7],_=>exact fT (fT (P x0 x1 x2 x3 x4 x5 x6 x7) t ht) q hq
 ·match xs,hl with
  | [x0,x1,x2,x3,x4,x5,x6,x7],_=>exact E8 (fT (fT (C x0 x1 x2 x3 x4 x5 x6 x7) t ht) q hq)
def Yi {xs:Duo->List Int}{t:sU}:(iN.map λq=>(q,xs q)).map (λx:Duo×List Int=>rowU (cQ t x.1 x.2))=iN.map λq=>rowU (cQ t q (xs q)):=by rfl
def U9 (d:List Int):pW (.lst [.tup [rowU d,.tup [.int 1,.int 1]]]) (.lst [.tup [rowU d,.tup [.int 1,.int 1]]])=.ok Z:=by
 refine NY (d:=.lst [.tup [.tup (d.map .int),.tup [.int 1,.int 1]]]) ?_ ?_
 ·simp[tq,mK,QF]
 ·have:=uQ d;unfold fI j3 fI j3 fI;rw[this];decide
theorem U_ (T:VN m n){t:sU}(ht:t∈iy n){xs:Duo->List Int}(hx:∀q,(xs q).length=m):jO [.int m,.lst (iN.map λq=>rowU (cQ t q (xs q))),ma t]=.ok (.bl Z):=by
 have hq:∀x∈iN.map λq=>(q,xs q),x.1∈iN/\x.2.length=m:=λx N6=>by
  grind
 have r1:=lU (T.pl t ht _ Ï) (qs:=iN.map _) (show 4<=1000 by decide) hq;have r2:=lU (T.pl t ht _ (.tail _ (.head _))) (qs:=iN.map _) (show 4<=1000 by decide) hq;have r3:=lU (T.pl t ht _ (.tail _ (.tail _ (.head _)))) (qs:=iN.map _) (show 4<=1000 by decide) hq;rw[Yi] at r1 r2 r3;have dd:∀f:Duo->List Int,(iN.map λq=>(q,xs q)).map (λx:Duo×List Int=>rowU (f x.1))=iN.map λq=>rowU (f q):=λf=>by rfl
 rw[dd] at r1 r2 r3;have ab:bZ [.int 2]=.ok (.lst (iN.map bU)):=by kernel_rfl
 have l1:∀B ,JG (HZ [L] (bo 0) dN (bq 1 gd (ag (iA GD (ag (ah 0) ar)) ar)) B) (iN.map bU)=.ok (iN.map λq=>rowU (dE q)):=by intro B;kernel_rfl
 have l2:∀B ,JG (HZ [L] (bo 0) dN (bq 1 gd (ag (aS su (aS dk (aS cv (ah 0) (gC (.int 0))) (aS cv (ah 0) (gC (.int 1)))) (gC (.int 2))) ar)) B) (iN.map bU)=.ok (iN.map λq=>rowU (dO q)):=by intro B;kernel_rfl
 have sg:∀B ,uu 3 (aD (bo 3) (aD (bo 4) (aD (bo 5) bO))) (ma t) B=.ok _:=λB=>rfl;unfold jO mY;simp only[Pzz,fB,sg,ab,T.an t ht,T.n1 t ht,T.n2 t ht,T.n0,T.b1 t ht,T.c1 t ht,T.d1 t ht,T.e1 t ht,l1,r1,l2,T.o1 t ht,T.p1 t ht,r2,T.o2 t ht,T.p2 t ht,r3]
def zG:Ev->R (U×Ev):=(fL (sx (ag (ah 1) (ag (bq 1 bZ (ag (gC (.int 2)) ar)) ar))) [L,L] (cg 2 (aD (bo 0) (aD (bo 1) bO))) (gB (aS (Oi id) (aS cv (ah 1) (gC (.int 1))) (gC (.int 0)))) (ah 0))
def Yj:jP=(aJ (KA (uu 3 (aD (bo 3) (aD (bo 4) (aD (bo 5) bO)))) (ah 2))
 (aJ (ba 6 (bq 3 bA (ag (ah 0) (ag (bq 2 cF (ag (ah 0) (ag (ah 3) ar))) (ag (bq 2 cF (ag (ah 0) (ag (ah 3) ar))) ar)))))
 (aJ (ff (d_ (ah 1)) (bo 7) fW)
 (aJ (ba 8 (bq 3 bA (ag (ah 0) (ag (bq 4 kR (ag (ah 0) (ag (ah 3) (ag (ah 4) (ag (ah 5) ar))))) (ag (bq 3 jI (ag (ah 0) (ag (gC (.int 0)) (ag (gC (.int 1)) ar)))) ar)))))
 (aJ (ba 9 zG)
 (bb (bq 3 cf (ag (bq 2 bF (ag (ah 0) (ag (ah 8) ar))) (ag (ah 9) (ag (aS rL (eZ (ag (aU (ag (gC (.int 0)) (ag (gC (.int 1)) ar))) ar)) (iA gF (ag (ah 9) ar))) ar)))))))))):=rfl
theorem N0 (T:VN m n){t:sU}(ht:t∈iy n){xs:Duo->List Int}(hx:∀q,(xs q).length=m):gI [.int m,.lst (iN.map λq=>rowU (cQ t q (xs q))),ma t]=.ok (.bl Z):=by
 have sg:∀B ,uu 3 (aD (bo 3) (aD (bo 4) (aD (bo 5) bO))) (ma t) B=.ok _:=λB=>rfl;have r4:=lU (T.pl t ht _ (.tail _ (.tail _ (.tail _ (.head _))))) (qs:=[((0,0),xs (0,0)),((1,0),xs (1,0))]) (show 2<=1000 by decide) (λx N6=>by
  simp only[Ø,Τ,or_false] at N6;rcases N6 with rfl|rfl
  ·exact⟨Ï,hx _⟩
  ·exact⟨Ö _ Ï,hx _⟩)
 have ch:∀q∈iN,jh _=.ok (.lst [.tup [rowU _,.tup _]]):=λq hq=>by
  obtain⟨z,hz,e⟩:=T.tk t ht q hq _ (hx q);have tp:=T.tp t ht q hq _ (hx q);have G:Gd m 2 2 z 4 _ _ _:=⟨wL e,λr hr=>by rw[Ą] at hr;rw[hr,wM,hx],by decide,by decide,by decide,by decide,hz⟩;refine CH G Ï ?_ (Su (by decide) (by decide)) (λx N6 y hy=>?_) (λz=>?_) ?_
  ·rw[tp];show (0:Int)<4 / (1*1)*0+(4 / (1*1)*1+0);decide
  ·rw[tp] at N6;simp only[Ø,Τ,or_false] at N6;rcases N6 with rfl|rfl
   ·cases hy
   ·cases hy;exact⟨rfl,rfl⟩
  ·have:=congrArg γ z;rw[wM,hx] at this;have:=T.m1;simp at *;lia
  ·rw[tp];rfl
 have eqs:∀q∈iN,pW _ (.lst [.tup [rowU (cQ t q (xs q)),.tup _]])=.ok Z:=λq _=>U9 _;obtain⟨B,e1,o7,rfl⟩:=cw (us:=iN.map λq=>rowU (cQ t q (xs q))) (sg:=bo 7) (s:=fW)
  (λi B=>∃o7,B=[J (.int m),J _,J (ma t),J _,J _,J (.int t.2.2),J (TL m t.1),o7,L,L])
  (λi u B hu h00=>by
   obtain⟨o7,hr⟩:=h00;subst hr;obtain⟨q,hq,rfl⟩:=Ú.mp (Ċ hu);refine⟨_,_,uM,.inl ?_,J (rowU (cQ t q (xs q))),rfl⟩;unfold fW;simp only[Pzz,Nat.reduceAdd,ch q hq,eqs q hq])
  (B:=[J (.int m),J (.lst (iN.map λq=>rowU (cQ t q (xs q)))),J (ma t),J (.int t.1),J (.int t.2.1),J _,J _,L,L,L]) ⟨_,rfl⟩
 have ml:rL _ (.int ((2:Nat):Int))=.ok _:=NR (u:=.tup [.int 0,.int 1]) (n:=2) (by decide) (by decide);have lz:∀(x0 x2 x3 x4 x5 x6 x7 x8:Option U) (a b c d:U),zG [x0,J (.lst [a,b,c,d]),x2,x3,x4,x5,x6,x7,x8,L]=.ok (.lst [a,b],[x0,J (.lst [a,b,c,d]),x2,x3,x4,x5,x6,x7,x8,L]):=by intros;kernel_rfl
 have rw4:(iN.map λq=>rowU (cQ t q (xs q)))=[rowU _,rowU _,rowU _,rowU _]:=rfl;rw[rw4] at e1 |-;have r4':cf [PF m t,.lst [rowU _,rowU _],.lst (ù (2:Int).toNat (.tup [.int 0,.int 1]))]=.ok _:=r4;unfold gI;rw[Yj];simp only[Pzz,fB,Nat.reduceAdd,sg,T.n1 t ht,T.t1 t ht,e1,T.k1 t ht,T.o3,T.g1 t ht,lz,T.f1 t ht,ml,r4']
theorem He {m n:Nat}(T:VN m n)(hm:m<=1000){t:sU}(ht:t∈iy n){y0 y1 y5:Option U}:∀{l:List Duo} {s:U},(∀q∈l,q∈iN)->GR s->∃(xs:List (List Int)) (s':U),pV GI [L,J 2,J 3,J 4] (bo 0) dN (HW 4 1 cJ (ag (ah 2) (ag (ah 3) (ag (aS dk (ah 0) (aU (ag (gC (.int 0)) ar))) ar)))) (l.map bU) [y0,y1,J s,J (.int m),J (ma t),y5]=.ok (Ā (λq x=>rowU (cQ t q x)) l xs,[y0,y1,J s',J (.int m),J (ma t),y5])/\xs.length=l.length/\(∀x∈xs,x.length=m)/\GR s'
 | [],s,_,hs=>⟨[],s,by rfl,rfl,λx hx=>(by cases hx),hs⟩
 |q::l,s,h,hs=>by
  obtain⟨x,s1,e1,hx,AJ⟩:=Ni hs hm λxs hx s=>T.row t ht q (h q Ï) xs hx s;obtain⟨xs,s2,e2,a,b,pG⟩:=He T hm ht (λp hp=>h p (Ö _ hp)) AJ (y0:=y0) (y1:=y1) (y5:=y5);refine⟨x::xs,s2,?_,by rw[Ù,Ù,a],λy hy=>?_,pG⟩
  ·have pa:dk (bU q) (.tup [.int 0])=.ok (bV q):=by rfl
   have wbk:∀z0 ,wb GI [L,J 2,J 3,J 4] [z0,J s1,J (.int m),J (ma t)] [y0,y1,J s,J (.int m),J (ma t),y5]=[y0,y1,J s1,J (.int m),J (ma t),y5]:=λ_=>by
    rfl
   rw[Ç,Lv];simp only[Pzz,Nat.reduceAdd,pa,e1,wbk,e2];rfl
  grind
theorem Yk {os:List Int}(h:os.length=3):∃a b c,os=[a,b,c]:=by
 match os,h with
 | [a,b,c],_=>lia
theorem Hf (T:VN m n)(hn:(m:Int) / 2=n)(h3:3<=n)(hm:m<=8)(SA:n<=1000){u0 s:U}{i r:Int}(h:GR s){s0:U}(e00:ej [u0,.int i]=.ok s0)(e01:bI [s0,.int 2]=.ok (.int r,s))(hr:6+2*r=m)(Ay:jb 2 r=Z){x2 x3 x4 x5:Option U} :
  ∃a2 a3 a4 a5:Option U,vY [J u0,J (.int i),x2,x3,x4,x5]=.nx [J u0,J (.int i),a2,a3,a4,a5]:=by
 obtain⟨os,s1,e1,ho,nd,hb,AJ⟩:=Qk h hn SA h3 (by lia);obtain⟨a,b,c,rfl⟩:=Yk ho;obtain⟨a,rfl⟩:∃k:Nat,a=k:=⟨a.toNat,by have:=(hb a (by simp)).1;lia⟩;obtain⟨b,rfl⟩:∃k:Nat,b=k:=⟨b.toNat,by have:=(hb b (by simp)).1;lia⟩;obtain⟨c,rfl⟩:∃k:Nat,c=k:=⟨c.toNat,by have:=(hb c (by simp)).1;lia⟩;have ht:(a,b,c)∈iy n:=by
  have:=(hb a (by simp)).2;have:=(hb b (by simp)).2;have:=(hb c (by simp)).2;simp only[ø,Ø,Τ,or_false,not_or] at nd;obtain⟨⟨n1,n2⟩,n3,_⟩:=nd;exact QE (by lia) (by lia) (by lia) (λe=>n1 (by rw[e])) (λe=>n2 (by rw[e])) (λe=>n3 (by rw[e]))
 replace e1:dZ [s,.int m,.int 3]=.ok (ma (a,b,c),s1):=e1
 obtain⟨xs,s2,e2,xl,xm,pG⟩:=He T (by lia) ht (λq hq=>hq) AJ (y0:=J u0) (y1:=J (.int i)) (y5:=x5);obtain⟨w0,w1,w2,w3,rfl⟩:∃w0 w1 w2 w3,xs=[w0,w1,w2,w3]:=by
  match xs,xl with
  | [w0,w1,w2,w3],_=>lia
 have fx:∀q ,(if q=(0,0) then w0 else if q=(1,0) then w1 else if q=(0,1) then w2 else w3).length=m:=λq=>by
  grind
 have t1:=U_ T ht fx;have t2:=N0 T ht fx;have er:(iN.map λq=>rowU (cQ (a,b,c) q (if q=(0,0) then w0 else if q=(1,0) then w1 else if q=(0,1) then w2 else w3)))=Ā (λq x=>rowU _) iN [w0,w1,w2,w3]:=rfl;rw[er] at t1 t2;have ab:bZ [.int 2]=.ok (.lst (iN.map bU)):=by kernel_rfl
 refine⟨J s2,J (.int m),J (ma (a,b,c)),J (.lst (Ā (λq x=>rowU (cQ (a,b,c) q x)) iN [w0,w1,w2,w3])),?_⟩;unfold vY;simp only[Pzz,e00,e01,Ay,hr,e1,ab,e2,t1,t2]
theorem Yl {x2 x3 x4 x5:Option U}:∃a2 a3 a4 a5:Option U,vY [J (.scr (ns.map .int)),J (.int i),x2,x3,x4,x5]=.nx [J (.scr (ns.map .int)),J (.int i),a2,a3,a4,a5]:=by
 obtain⟨s0,e0,h0⟩:=Ng (us:=[]) (u:=.scr (ns.map .int)) (ns:=ns) (k:=i) (.inl rfl) (by lia);obtain⟨r,s1,e1,r0,r1,h1⟩:=Am (m:=2) h0 (by decide) (by decide);obtain⟨k,rfl⟩:∃k:Nat,r=k:=⟨r.toNat,by lia⟩
 match k,r1,e1 with
 |0,_,e1=>exact Hf aaF (by decide) (by decide) (by decide) (by decide) h1 e0 e1 (by decide) (by decide)
 |1,_,e1=>exact Hf aaN (by decide) (by decide) (by decide) (by decide) h1 e0 e1 (by decide) (by decide)
 |k+2,h,_=>lia
theorem pure_law (ns:List Int)(hl:ns.length<=63):Ca [.scr (ns.map .int)]=.ok (.bl Z):=by
 obtain⟨z,hz⟩:∃z:Nat,(if (if (2:Int)<(((ns.map U.int).length:Nat):Int) then 2 else (((ns.map U.int).length:Nat):Int))>1 then (if (2:Int)<(((ns.map U.int).length:Nat):Int) then 2 else (((ns.map U.int).length:Nat):Int)) else 1)=z:=⟨(if (if (2:Int)<(((ns.map U.int).length:Nat):Int) then 2 else (((ns.map U.int).length:Nat):Int))>1 then (if (2:Int)<(((ns.map U.int).length:Nat):Int) then 2 else (((ns.map U.int).length:Nat):Int)) else 1).toNat,by split<;>(try split)<;>lia⟩;have zb:z<=1000:=by lia
 obtain⟨B',e,a1,a2,a3,a4,a5,rfl⟩:=cw (us:=bK 0 z) (sg:=bo 1) (s:=vY) (λ_ B=>∃a1 a2 a3 a4 a5:Option U,B=[J (.scr (ns.map .int)),a1,a2,a3,a4,a5])
  (λi u B hu h00=>by
   obtain⟨a1,a2,a3,a4,a5,hr⟩:=h00;subst hr;obtain⟨j,_,rfl⟩:=qJ (Ċ hu);rw[Int.zero_add];obtain⟨b2,b3,b4,b5,q⟩:=Yl (ns:=ns) (i:=j) (x2:=a2) (x3:=a3) (x4:=a4) (x5:=a5);exact⟨_,_,rfl,.inl q,_,_,_,_,_,rfl⟩)
  (B:=[J (.scr (ns.map .int)),L,L,L,L,L]) ⟨_,_,_,_,_,rfl⟩
 unfold Ca MR;simp only[Pzz,fB,Nat.reduceAdd,Nat.reduceSub,hz,zm z (by lia),e]
def wlkE {q:ó}{d:DefRec}{K:Params->È}(Yr:d.params.defaults=[])(hY:∀(w:â) (h:É),YP w h->(K w.params).In h)(F:∀(w:â) (mg:Str->Option Ì) (fa:I) (h:É),(K w.params).In h->h.Ns ê mg->mg d.name=J (.ref fa)->
   ∃fd:ħ,(∀(s:À) (u:Ì),BindsTo s fd ⟨[u],[]⟩ [("script",u)])/\∀base:É,(K w.params).In base->base.Ns ê mg->gE PySem.Challenge.rw_hushcards_k57_whole_reckoning_with_pairs.prog w (K w.params) mg base pD 26 fa fd ["script"] (Bh (K w.params))) :
  PySem.W.WalkO q loose XP YP PySem.Challenge.rw_hushcards_k57_whole_reckoning_with_pairs.row.toRowW d [] (λf vs=>PySem.call f vs):=
 _root_.L2.walk_of (l:=PySem.Challenge.rw_hushcards_k57_whole_reckoning_with_pairs) (n:=63) (k:=26) (x:="script") (CX:=λ_=>pD) (sp:=λw=>Bh (K w.params)) rfl (by decide) Yr ⟨rfl,by decide,by decide⟩ hY F (λ_ _ a ns hl hO hS=>⟨a,ns,rfl,TX hO hS,hl,λ_=>rfl⟩) λ_ _ _ _ _ z=>z
end Hc
open PySem PySem.W PyProof.Rows
set_option maxRecDepth 100000 in
set_option maxHeartbeats 0 in
theorem PySem.Challenge.cw_hushcards_k57_whole_reckoning_with_pairs_holds : PySem.Challenge.rw_hushcards_k57_whole_reckoning_with_pairs.Holds := by
 w_on
 refine PySem.W.holds_law (by decide+kernel) λabq=>?_;refine' PySem.W.holds_open Hc.left (PySem.W.Hook.of _) (PySem.W.Hook.keeps _) (XP:=PySem.W.XL Hc.vw [])
  (λs e=>PySem.W.xl_of s (Bool.and_eq_true_iff.mp e).1) PySem.W.XL.keeps ?d ?t ?k
  (λs e=>PySem.W.recFacts_of (Bool.and_eq_true_iff.mp e).2) ?w abq ?g ⟨rfl,rfl,rfl,rfl,rfl,by decide+kernel⟩ ?hw ?hc
 case d=>rfl
 case t=>rfl
 case k=>rfl
 case w=>rfl
 case g=>rfl
 case hw=>w_witness2
 show PySem.W.WalkO Hc.vw [] (PySem.W.XL Hc.vw []) (PySem.W.InK Hc.Kf) _ _ _ _
 k_fill
 refine Hc.wlkE rfl (λw h Yqq=>Yqq) ?F
 case F=>
  intro w mg fa h KX G Ys;refine' Hc.all_mk KX G Ys ?Q ?_ ?_ ?_ ?_ ?_ ?_ ?_ ?_ ?_ ?_ ?_ ?_ ?_ ?_ ?_ ?_ ?AE ?Fd ?AF Hc.pure_law
  (case AE=>exact .mk (by k_is) (by k_is) (by k_is) (by k_is) (by k_is) (by k_is) (by k_is) (by k_is) (by k_is) (by k_is) (by k_is) (by k_is) (.cons (by k_is) (.cons (by k_is) (.cons (by k_is) (.cons (by k_is) .nil)))))
  (case Fd=>exact .mk (by k_is) (by k_is) (by k_is) (by k_is) (by k_is) (by k_is) (by k_is) (by k_is) (by k_is) (by k_is) (by k_is) (by k_is) (.cons (by k_is) (.cons (by k_is) .nil)))
  (case AF=>exact .mk (by k_is) (by k_is) (by k_is) (by k_is) (by k_is) (by k_is) (by k_is) (by k_is) (by k_is) (by k_is) (by k_is) (by k_is) (.cons (by k_is) (.cons (by k_is) .nil)))
  (case Q=>constructor<;>exact .mk (by k_is) (by k_is) (by k_is) (by k_is))
  all_goals first|k_is|exact .mk (by k_is) (by k_is) (by k_is) (by k_is)|skip