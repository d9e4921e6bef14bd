import PyProof.Rows.All
import Wide.All
import OpenK.AllK
import Wide.FinOn
import Lean
import PyProof.EqAt
import PyProof.EqKinds
import PyProof.TupleCall
import PyProof.NeKinds
import PyProof.TupleKey
import PyProof.DictRoadsH
import PySem.SetTable
import PyProof.SetRoads
import PyProof.DictKeyH
import PyProof.IsRules
import PyProof.Rows.SetFrom
import PyProof.WalksMore
import PyProof.ListMulRoad
import PyProof.FactsAll.subtypes_4
import PyProof.Rows.ListMulArg
import PyProof.ZipIter
import PyProof.Rows.SortRuns
import PyProof.Rows.SortKey
import PyProof.Rows.SortShell
import PyProof.Rows.SortWalk
import KE.KSortTup
import KE.KDictList
import PyProof.AutoListH
import PyProof.SumWalk
import PyProof.WalkInts
import PyProof.FString
import PyProof.Rows.StrJoin2
import PyProof.CallStr
import PyProof.StrWalks
import PyProof.ToksMono
import PyProof.StrCalls6
import PyProof.StrBlockH
import KE.KWords
import PySem.Challenge.RW_hushcards_k81_plans_and_rows_written
abbrev hG:=@decide_eq_true
abbrev hJ:=@decide_eq_false
abbrev hU.{u}:=@if_neg.{u}
abbrev hV.{u}:=@if_pos.{u}
set_option Elab.async false
set_option linter.all false
set_option compiler.extract_closed false
set_option genSizeOf false
set_option bootstrap.genMatcherCode false
set_option maxRecDepth 100000
set_option maxHeartbeats 4000000
open Option renaming some->J,none->Z
open Bool renaming false->Y,true->M
open PySem renaming wpAny_bind->À,sizeLine->Â,Value->ò,Value->F,wpAny_pure->Ë,starEach->Ç,Shared->Ã,Addr->Õ,Addr->G,mainGlobals->ç,model->Ä,wpAny->Å,Around->Ñ,bootBuiltins->þ,wpAny_mono->ù,mem_of_lookup->ŗ,wpAny_callSpecial?_slot->Ř,wpAny_call_entry->Ī,wpAny_setState_of->ĵ,compareOp->ú,wpAny_holding->Ģ,backTo->ã,wpAny_truthy_bool->ŋ,foldedSetIterable->Ō,wpAny_field->ė,wpAny_newObj_type->ř,Expr->É,attributeBase->Ķ,Program->ø,keywordEach->ģ,wpAny_askSetting->Ś,eval->Ì,Heap->Í,World->ß,sizeLine_eq->ī,codeAny_builtin->ś,wpAny_setField_rec->Θ,wpAny_seqItems->Ŝ,wpAny_passesOwn->ů,cellsFrom->Ĥ,assignEach->ķ,wpAny_rule->ĸ,Stmt->Ô,binaryOp->Ę,cLine->î,swapsWith->Ĭ,Keyword->Ċ,behindInMarks->Ű,FuncData->ĭ,backToKw->ĥ,codeAny_mono->ű,SetTable->Į,holding->ę,wpAny_Call_Name_kw->ϔ,wpAny_attempt->Ι,wpAny_pyIter_list->ϕ,plainObj_wpAny_Assign_Attribute->aew,start->ô,sliceBounds->θ,unsupported->Ų,HeapKind->Ĺ,wpAny_setField->ι,wpAny_typeOf->Κ,IsPair->ď,wpAny_updateSeq_pair->aeO,wpAny_execs_nil->ϖ,getMethod->ŝ,DictEntry->Ş,wpAny_of_eq->Λ,wpAny_setEntries_of->ae6,wpAny_pyIter_tuple->afg,Scope->Ā,codeAny->ĺ,wpAny_runValue->ϗ,seqIndex?->ų,PassesOwn->Μ,NameKind->Ν,pickOrder->μ
open List renaming length_map->Æ,getElem?_eq_getElem->Ø,length_cons->Ò,mem_cons_of_mem->Ý,mem_cons_self->Ú,length_append->Þ,mem_cons->à,size_toArray->ë,all_eq_true->ì,mem_singleton->ð,map_cons->å,append_assoc->õ,mem_map->á,getElem?_eq_some_iff->ċ,length_take->ÿ,mem_append->ñ,getElem?_map->ă,mem_append_right->Ē,append_nil->ā,map_append->Ą,getElem_mem->ą,getElem?_set_ne->Ě,range->ê,map_map->ö,length_drop->ē,take_append_drop->Ł,eq_nil_of_length_eq_zero->ş,getElem?_append_right->Š,mem_of_getElem?->į,mem_range->Č,length_range->ĝ,mem_of_mem_take->Ļ,lookup_cons->Ğ,flatten_cons->ō,getElem?_append_left->Ŵ,perm_append_comm->Ŏ,set_cons_zero->ŵ,set_cons_succ->Ŷ,getElem?_cons_succ->ν,mem_append_left->ŷ,pairwise_cons->ŏ,take_of_length_le->Ξ,length_nil->š,drop_eq_getElem_cons->ξ,getElem?_eq_none_iff->Ϙ,map_congr_left->Ο,length_pos_iff->Ÿ,length_set->ł,mem_of_mem_drop->Ź,not_mem_nil->Ő,take_succ_eq_append_getElem->ϙ,pairwise_map->Ţ,lookup->ő,mem_nil_iff->ţ,take_length->ź,mem_iff_getElem->Ρ,nodup_cons->Ť,flatten_append->Ϛ,mem_map_of_mem->ο,nil_append->Τ,exists_cons_of_ne_nil->ϛ,length_singleton->Ϝ,all_cons->Œ,getElem?_eq_none->π,pairwise_iff_getElem->ϝ,length->ť,getElem?_range->ρ,getElem?_set_self->Ϟ,drop_eq_nil_of_le->ϟ,sum_cons->Υ,getD_eq_getElem?_getD->adO,exists_mem_of_ne_nil->adS,drop_length->Ϡ,nodup_range->ς,cons_append->ϡ,reverse_append->Ϣ,of_mem_zip->σ,pairwise_singleton->aeh,getElem?_drop->aei,getElem?_take->ϣ,map_take->τ,nodup_append->Ϥ,getElem_take->aeD,length_replicate->aeG,any_eq_true->ϥ,mem_flatMap->Ϧ,mem_filter->ϧ,filterMap_cons->aeX,forIn_cons->Ϩ,map_eq_nil_iff->ae9,mem_filterMap->afh,all_map->υ,zip_cons_cons->afo,map_nil->afp,drop_drop->ϩ,getElem?_take_of_lt->afy,getD->Ż,filterMap_cons_some->afC,ext_getElem?->afD,flatMap_cons->afF
open PySem.Heap renaming get?_push_of_some->Ö,get?_push_size->æ,lt_size->Û,size_push->Đ,get?_update_self->χ,SameBut->œ
open PySem.W renaming Frag->Ê,nsIn->û,mg_none_of->ě,fnOf->Ĉ,findIn->ğ,kia_one->ļ,keepIn->Ń,openEnds->Ŧ,mg_of->ń,codeIn->ż,instObj->Φ,fencedOpening->Ϫ,emptyDict->ψ,plainGet->ω,cellsFrom_some->aep,hasDictIn->ϫ,plainGet_of->aeZ,topFrom->Ϭ,isFn->ϊ,callWith_K->afk,lookIn->ϭ,plainOver->afx
open PySem.Str renaming length_append->Ù,ofString->Ü,join->Ă,empty->č,empty_append->Χ
open Nat renaming le_refl->Ð,le_trans->ä,ne_of_lt->è,lt_of_lt_of_le->ć,le_add_right->İ,add_sub_cancel_left->Ψ,zero_add->Ġ,lt_irrefl->ı,mul_assoc->Ž,min_eq_left->ŧ,zero_le->Ħ,pow_le_pow_right->Ω,pow_succ->Ņ,lt_succ_of_lt->ž,le_of_lt_succ->ſ,lt_of_le_of_lt->γ,lt_or_ge->ņ,ne_of_gt->Ŕ,mul_comm->Ũ,lt_succ_self->δ,succ_pos->ũ,mod_lt->Ň,mul_left_comm->aeB,mul_le_mul_right->aeP,add_assoc->ϋ,le_of_lt->ό,lt_trans->ύ,sub_self->afn,lt_trichotomy->afB
open Array renaming length_toList->í,getElem?_toList->Ĕ,getElem?_eq_getElem->ħ,toList_append->Ĳ,getElem?_eq_some_iff->Ū,toList_extract->Ϯ,toList_push->ε,toList_reverse->ϯ,getElem?_eq_none->aes,toList_setIfInBounds->afc,perm_iff_toList_perm->afd
open Bool renaming and_eq_true->é,false_ne_true->ü,false_eq_true->đ,or_eq_false_iff->Ĩ,true_and->ĳ,eq_false_iff->Α,not_true->ū,not_false->Ŭ,false_and->Β,eq_iff_iff->Γ,and_false->Δ,or_eq_true->ϰ,and_true->ώ
open PyProof.Rows renaming wpS_bind->Î,wpS_pure->Ó,SortSt->È,Keyed->Á,pendingOf->ï,arrOf->Ï,wpS_forRange->ĕ,kindOf->â,slot_tuple_getitem->ϱ,IntsAre->ý,wpS_mono->Ď,callWith_type1->adF,SortKind->ĩ,envOfC->Ć,wpS_modify->ŕ,failedOf->Ĵ,reverseSlice'->Ϗ,wpS_get->Ľ,KeyOrd->ľ
open Option.some renaming inj->ó
open PyProof.Rows.KeyOrd renaming kle_trans->ĉ,kle_of_klt->ġ,kle_refl->ň
open List.Perm renaming append_left->Ŗ,append_right->ŭ,refl->Ŀ
open PySem.F renaming plainAttrs_list->Ε,slot_tuple_iterator_next->ϲ,args_tuple_add_2->ad3,slot_list_append->ad6,type_list_append->ad7,slot_list_extend->ad8,type_list_extend->ad9,entry_tuple_add->aef,slot_tuple_add->aeq,plainAttrs_str->aet,args_tuple_iterator_next_1->aeT,entry_tuple_iterator_next->ae4,slot_zip_next->ϳ
open Option renaming map_eq_some_iff->Ζ,getD_none->aeJ,getD_some->aeK
open PySem.PassesOwn renaming never->ŀ
open PySem.W.Fast renaming te14082659384304107361->ϴ,te14364793385576792824->ϵ,te10274390034422433532->϶,te4187177175401517315->Ϸ
open False renaming elim->Ė
open PySem.Heap.SameBut renaming update->Η
open PySem.Builtin.Str renaming spaceWords->ϸ
open PySem.World renaming withFollow->ϐ
open PySem.Obj renaming data_mapFields->ζ,mapSeq->Ů,isFreed_of_fields->aeI,cls_mapFields->afE
open Classical renaming byContradiction->Ϲ
open PySem.Builtin.SmallTypes renaming nextOf->Ϻ
open Int renaming toNat_natCast->ϑ,emod_lt_of_pos->ϒ,emod_nonneg->ϓ
open List.Pairwise renaming imp_of_mem->ϻ
open List.Nodup renaming length_le_of_subset->adj
open PySem.Params renaming followText->adm
open PySem.StrLaws renaming join_length_le->ady
open PySem.SeqAt renaming EqAt->ŉ,RcNeAt->afK
open PySem.Builtin.Slice renaming sliceAdjust->adQ,slicePlaces->adR
open PySem.Builtin.List renaming listTooLong->ad4
open Ne renaming symm->Ĝ
open PySem.Builtin.Range renaming rangeSize->aec
open Nat.Coprime renaming dvd_of_dvd_mul_right->aeo
open PySem.Calls renaming callWith_builtin->aer,Name_function_global->afa,Constant_str->aff,spliced_cons->afj,call_function_entry->afu
open Prod renaming ext->Ŋ
open PySem.Builtin.Frozenset renaming updateFrom->aeS
open PySem.Txt renaming replace->η
open PySem.Unicode renaming isSpace->ae_
open PySem.Builtin.Tuple renaming tupleItemsOf->afb
open PySem PySem.Spec PyProof.Rows
noncomputable section
variable {a b it f C z uI uO i1 i2 a1 a2 cX:G}{o T ra rb S:List Á}{P prog:ø}{w:ß}{h h':Í}{t' i j k g m d mask bc ep dep:Nat}{ch fp:List G}{x y qual x0:Str}{N ps ws loose ts:List Str}{Mq:Model}{A:G->Prop}{E Q:F->Ã->Prop}{t:Į}{s:Ã}{pos pos' p2:Pos}{pins:List (G×Obj)}{c tg iter elt:É}{K:Ê}{st:Ô}{es sI:List É}{op op':CmpOp}{body:List Ô}{lo:Int}{pl:Sem Bool}{ns os cs:List Int}{kw:List (Str×F)}{env:Env}{mg:Str->Option F}{base rows:List (List Int)}{fd:ĭ}{scope:Ā}{an od:Option G}{osl:Array (Option F)}{bP ys:Array F}{its:List F}{XP:(Str->Option F)->Í->Prop}{YP:ß->Í->Prop}{js:List (Option Nat)}{vo:Array Á}
def zyy {a b:Prop}(x:a)(y:b):a∧b:=⟨x,y⟩
namespace L2
noncomputable def di (s:Ô):Arguments:=match s with
 | .FunctionDef _ a _ _ _ _ _ _ _ _=>a
 |_=>{posonlyargs:=[],args:=[],vararg:=Z,kwonlyargs:=[],kw_defaults:=[],kwarg:=Z,defaults:=[]}
noncomputable def aU (s:Ô):List Ô:=match s with
 | .FunctionDef _ _ b _ _ _ _ _ _ _=>b
 |_=>[]
noncomputable def ag (s:Ô):Ā:=match s with
 | .FunctionDef _ _ _ _ _ _ sc _ _ _=>sc
 |_=>{kind:=.function,names:=[],isGenerator:=Y,isCoroutine:=Y}
noncomputable def ff (s:Ô)(j:Nat):Ô:=match s with
 | .ClassDef _ _ _ body _ _ _ _ _ _ _=>body.getD j (.Pass ⟨0,0,0,0⟩)
 |_=>.Pass ⟨0,0,0,0⟩
end L2
namespace Hc
open L2
noncomputable def top (i:Nat):Ô:=PySem.Challenge.pw_hushcards_k81_plans_and_rows_written.main.body.getD i (.Pass ⟨0,0,0,0⟩)
noncomputable abbrev hS (s:String)(n:Nat):F:=.str (Ü s) n
noncomputable abbrev hT (l:List F):Obj:=⟨.type "tuple",Z,.seq l.toArray 0,#[]⟩
abbrev hE (P:Params)(s:String)(n:Nat)(v:F):Ş:=⟨PyData.keyHash P (Ü s),hS s n,v⟩
noncomputable abbrev hD (c:F)(l:List Ş)(n:Nat):Obj:=⟨c,Z,.dict l.toArray n,#[]⟩
noncomputable abbrev hX (c:F)(l:List F):Obj:=⟨c,Z,.fields l.toArray,#[]⟩
abbrev hC (n q:String)(a:Nat)(l k:Int)(r r1:Nat)(v1 v2:F)(r2:Nat)(m:Int)(m':Nat):Obj:=hX (.type "code") [hS n a,hS q (a+1),hS "/claim/cut.py" (a+2),.int l 0,.int k 0,.int 0 0,.int 0 0,.int 3 0,.ref r,.bool M,.int 181 0,.ref r1,.none,v1,v2,.ref r2,.int m 0,.int l 0,hS "/claim/cut.py" m']
abbrev hF (n q:String)(s:Ô)(kV ku pm:F)(an:Option G)(cd ct:F):Obj:=⟨.type "function",Z,.func (Ĉ n q (di s) (aU s) (ag s) .none kV ku pm an cd ct),#[]⟩
abbrev hc (n:String)(a:Nat)(l k:Int)(r m:Nat):Obj:=hC n n a l k r (r+1) (.ref (r+2)) (.ref (r+3)) (r+4) m (m+1)
abbrev hf (n:String)(i:Nat)(m:F)(c:Nat):Obj:=hF n n (top i) .none .none m Z (.ref c) .none
abbrev VI:F:=hS "hushcards.orders" 223
abbrev Za:F:=hS "hushcards.shuffles" 255
abbrev SJ:F:=hS "hushcards.plans" 265
abbrev Q8:F:=hS "hushcards.notes" 309
abbrev Bn:F:=hS "law_hushcards_k81_plans_and_rows_written" 501
def Kf (P:Params):Ê:=
 (nat_lit 2,hD .none [] 0) ::
 (nat_lit 3,hD (.type "dict") [hE P "__name__" 165 (hS "law_hushcards_k81_plans_and_rows_written" 501),hE P "__doc__" 166 .none,hE P "__package__" 167 .none,hE P "__loader__" 168 (.builtin "__main__.__loader__#opaque"),hE P "__spec__" 169 .none,hE P "__annotations__" 170 (.ref 6),hE P "__builtins__" 171 (.ref 4),hE P "__file__" 173 (hS "/claim/cut.py" 172),hE P "__cached__" 174 .none,hE P "CardError" 206 (.ref 24),hE P "BadNote" 222 (.ref 37),hE P "MOST_CARDS" 226 (.int 8 225),hE P "GREATEST_CARD" 228 (.int 9 227),hE P "is_whole" 235 (.ref 46),hE P "is_card" 242 (.ref 53),hE P "is_row" 248 (.ref 58),hE P "is_order" 254 (.ref 63),hE P "MOST_ORDERS" 258 (.int 24 257),hE P "is_shuffle" 264 (.ref 68),hE P "MOST_PLANS" 268 (.int 60 267),hE P "MOST_WITHIN" 270 (.int 12 269),hE P "are_places" 276 (.ref 73),hE P "is_way" 282 (.ref 78),hE P "are_ways" 288 (.ref 83),hE P "has_form" 296 (.ref 90),hE P "plans_within" 302 (.ref 95),hE P "is_plan" 308 (.ref 100),hE P "FIGURES" 341 (.ref 101),hE P "row_text" 347 (.ref 106),hE P "way_text" 356 (.ref 113),hE P "plan_text" 362 (.ref 118),hE P "is_number" 368 (.ref 123),hE P "number_of" 377 (.ref 130),hE P "Reader" 483 (.ref 210),hE P "plan_read" 492 (.ref 221),hE P "row_read" 500 (.ref 228),hE P "_law_cell_at" 510 (.ref 235),hE P "_law_state" 519 (.ref 242),hE P "_law_take" 529 (.ref 249),hE P "_law_row" 535 (.ref 254),hE P "_law_order" 541 (.ref 259),hE P "_law_laid" 547 (.ref 264),hE P "_law_shuffle" 553 (.ref 269),hE P "_law_end" 562 (.ref 276),hE P "_law_look" 568 (.ref 281),hE P "_law_plan" 574 (.ref 286),hE P "_law_size" 580 (.ref 291),hE P "_law_drawn" 591 (.ref 298),hE P "_law_numbers" 597 (.ref 303),hE P "_law_text" 603 (.ref 308),hE P "_law_plain" 609 (.ref 313),hE P "law" 615 (.ref 318)] 52) ::
 (nat_lit 15,hT [.type "ValueError"]) ::
 (nat_lit 22,hT []) ::
 (nat_lit 23,hD (.type "dict") [hE P "__module__" 196 (hS "hushcards.errors" 187),hE P "__firstlineno__" 200 (.int 2 199),hE P "__static_attributes__" 201 (.ref 22),hE P "__weakref__" 203 (.ref 25),hE P "__doc__" 204 .none] 3) ::
 (nat_lit 24,⟨.type "type",Z,.cls {name:="CardError",bases:=[.type "ValueError"],mro:=[.ref 24,.type "ValueError",.type "Exception",.type "BaseException",.type "object"],ns:=23,qualname:="CardError",subclasses:=[.ref 37]},#[J (.ref 15),Z,J (hS "CardError" 189),J (hS "CardError" 197),J (.builtin "ValueError.__new__"),J (.bool M)]⟩) ::
 (nat_lit 25,hX (.type "getset_descriptor") [hS "__weakref__" 202,.ref 24,.builtin "ExceptionGroup.__weakref__",.none]) ::
 (nat_lit 28,hT [.ref 24]) ::
 (nat_lit 35,hT []) ::
 (nat_lit 36,hD (.type "dict") [hE P "__module__" 214 (hS "hushcards.errors" 187),hE P "__firstlineno__" 218 (.int 4 217),hE P "__static_attributes__" 219 (.ref 35),hE P "__doc__" 220 .none] 2) ::
 (nat_lit 37,⟨.type "type",Z,.cls {name:="BadNote",bases:=[.ref 24],mro:=[.ref 37,.ref 24,.type "ValueError",.type "Exception",.type "BaseException",.type "object"],ns:=36,qualname:="BadNote"},#[J (.ref 28),Z,J (hS "BadNote" 207),J (hS "BadNote" 215),J (.builtin "ValueError.__new__"),J (.bool M)]⟩) ::
 (nat_lit 40,hT []) ::
 (nat_lit 42,hT [hS "thing" 232]) ::
 (nat_lit 43,hT []) ::
 (nat_lit 45,hc "is_whole" 229 9 1 40 233) ::
 (nat_lit 46,hf "is_whole" 6 VI 45) ::
 (nat_lit 47,hT []) ::
 (nat_lit 49,hT [hS "thing" 239]) ::
 (nat_lit 50,hT []) ::
 (nat_lit 52,hc "is_card" 236 11 1 47 240) ::
 (nat_lit 53,hf "is_card" 7 VI 52) ::
 (nat_lit 54,hT []) ::
 (nat_lit 57,hC "is_row" "is_row" 243 13 1 54 55 .none .none 56 246 247) ::
 (nat_lit 58,hf "is_row" 8 VI 57) ::
 (nat_lit 59,hT []) ::
 (nat_lit 62,hC "is_order" "is_order" 249 17 2 59 60 .none .none 61 252 253) ::
 (nat_lit 63,hf "is_order" 9 VI 62) ::
 (nat_lit 64,hT []) ::
 (nat_lit 67,hC "is_shuffle" "is_shuffle" 259 23 2 64 65 .none .none 66 262 263) ::
 (nat_lit 68,hf "is_shuffle" 12 Za 67) ::
 (nat_lit 69,hT []) ::
 (nat_lit 72,hC "are_places" "are_places" 271 30 2 69 70 .none .none 71 274 275) ::
 (nat_lit 73,hf "are_places" 16 SJ 72) ::
 (nat_lit 74,hT []) ::
 (nat_lit 77,hC "is_way" "is_way" 277 36 2 74 75 .none .none 76 280 281) ::
 (nat_lit 78,hf "is_way" 17 SJ 77) ::
 (nat_lit 79,hT []) ::
 (nat_lit 82,hC "are_ways" "are_ways" 283 41 2 79 80 .none .none 81 286 287) ::
 (nat_lit 83,hf "are_ways" 18 SJ 82) ::
 (nat_lit 84,hT []) ::
 (nat_lit 86,hT [hS "thing" 292,hS "many" 293]) ::
 (nat_lit 87,hT []) ::
 (nat_lit 89,hc "has_form" 289 47 2 84 294) ::
 (nat_lit 90,hf "has_form" 19 SJ 89) ::
 (nat_lit 91,hT []) ::
 (nat_lit 94,hC "plans_within" "plans_within" 297 61 1 91 92 .none .none 93 300 301) ::
 (nat_lit 95,hf "plans_within" 20 SJ 94) ::
 (nat_lit 96,hT []) ::
 (nat_lit 99,hC "is_plan" "is_plan" 303 69 2 96 97 .none .none 98 306 307) ::
 (nat_lit 100,hf "is_plan" 21 SJ 99) ::
 (nat_lit 101,hD (.type "dict") [hE P "0" 311 (.int 0 312),hE P "1" 313 (.int 1 314),hE P "2" 315 (.int 2 316),hE P "3" 317 (.int 3 318),hE P "4" 319 (.int 4 320),hE P "5" 321 (.int 5 322),hE P "6" 323 (.int 6 324),hE P "7" 325 (.int 7 326),hE P "8" 327 (.int 8 328),hE P "9" 329 (.int 9 330)] 10) ::
 (nat_lit 102,hT []) ::
 (nat_lit 105,hC "row_text" "row_text" 342 84 1 102 103 .none .none 104 345 346) ::
 (nat_lit 106,hf "row_text" 24 Q8 105) ::
 (nat_lit 107,hT []) ::
 (nat_lit 109,hT [hS "way" 351,hS "seen" 352,hS "inner" 353]) ::
 (nat_lit 110,hT []) ::
 (nat_lit 112,hc "way_text" 348 86 1 107 354) ::
 (nat_lit 113,hf "way_text" 25 Q8 112) ::
 (nat_lit 114,hT []) ::
 (nat_lit 117,hC "plan_text" "plan_text" 357 90 1 114 115 .none .none 116 360 361) ::
 (nat_lit 118,hf "plan_text" 26 Q8 117) ::
 (nat_lit 119,hT []) ::
 (nat_lit 122,hC "is_number" "is_number" 363 105 1 119 120 .none .none 121 366 367) ::
 (nat_lit 123,hf "is_number" 27 Q8 122) ::
 (nat_lit 124,hT []) ::
 (nat_lit 126,hT [hS "word" 372,hS "number" 373,hS "sign" 374]) ::
 (nat_lit 127,hT []) ::
 (nat_lit 129,hc "number_of" 369 107 1 124 375) ::
 (nat_lit 130,hf "number_of" 28 Q8 129) ::
 (nat_lit 138,hT []) ::
 (nat_lit 140,hT [hS "self" 393,hS "text" 394]) ::
 (nat_lit 141,hT []) ::
 (nat_lit 143,hC "__init__" "Reader.__init__" 390 114 2 138 139 (.ref 140) (.ref 141) 142 395 396) ::
 (nat_lit 144,hF "__init__" "Reader.__init__" (ff (top 29) 0) .none .none (hS "hushcards.notes" 309) Z (.ref 143) .none) ::
 (nat_lit 145,hT []) ::
 (nat_lit 147,hT [hS "self" 401]) ::
 (nat_lit 148,hT []) ::
 (nat_lit 150,hC "coming" "Reader.coming" 398 118 1 145 146 (.ref 147) (.ref 148) 149 402 403) ::
 (nat_lit 151,hF "coming" "Reader.coming" (ff (top 29) 1) .none .none (hS "hushcards.notes" 309) Z (.ref 150) .none) ::
 (nat_lit 152,hT []) ::
 (nat_lit 154,hT [hS "self" 408,hS "word" 409]) ::
 (nat_lit 155,hT []) ::
 (nat_lit 157,hC "take" "Reader.take" 405 121 1 152 153 (.ref 154) (.ref 155) 156 410 411) ::
 (nat_lit 158,hF "take" "Reader.take" (ff (top 29) 2) .none .none (hS "hushcards.notes" 309) Z (.ref 157) .none) ::
 (nat_lit 159,hT []) ::
 (nat_lit 161,hT [hS "self" 416,hS "word" 417]) ::
 (nat_lit 162,hT []) ::
 (nat_lit 164,hC "takes" "Reader.takes" 413 126 2 159 160 (.ref 161) (.ref 162) 163 418 419) ::
 (nat_lit 165,hF "takes" "Reader.takes" (ff (top 29) 3) .none .none (hS "hushcards.notes" 309) Z (.ref 164) .none) ::
 (nat_lit 166,hT []) ::
 (nat_lit 168,hT [hS "self" 424,hS "word" 425]) ::
 (nat_lit 169,hT []) ::
 (nat_lit 171,hC "need" "Reader.need" 421 132 2 166 167 (.ref 168) (.ref 169) 170 426 427) ::
 (nat_lit 172,hF "need" "Reader.need" (ff (top 29) 4) .none .none (hS "hushcards.notes" 309) Z (.ref 171) .none) ::
 (nat_lit 173,hT []) ::
 (nat_lit 175,hT [hS "self" 432,hS "numbers" 433]) ::
 (nat_lit 176,hT []) ::
 (nat_lit 178,hC "read_numbers" "Reader.read_numbers" 429 136 1 173 174 (.ref 175) (.ref 176) 177 434 435) ::
 (nat_lit 179,hF "read_numbers" "Reader.read_numbers" (ff (top 29) 5) .none .none (hS "hushcards.notes" 309) Z (.ref 178) .none) ::
 (nat_lit 180,hT []) ::
 (nat_lit 182,hT [hS "self" 440,hS "orders" 441]) ::
 (nat_lit 183,hT []) ::
 (nat_lit 185,hC "read_orders" "Reader.read_orders" 437 142 1 180 181 (.ref 182) (.ref 183) 184 442 443) ::
 (nat_lit 186,hF "read_orders" "Reader.read_orders" (ff (top 29) 6) .none .none (hS "hushcards.notes" 309) Z (.ref 185) .none) ::
 (nat_lit 187,hT []) ::
 (nat_lit 189,hT [hS "self" 448,hS "depth" 449,hS "seen" 450]) ::
 (nat_lit 190,hT []) ::
 (nat_lit 192,hC "read_way" "Reader.read_way" 445 148 2 187 188 (.ref 189) (.ref 190) 191 451 452) ::
 (nat_lit 193,hF "read_way" "Reader.read_way" (ff (top 29) 7) .none .none (hS "hushcards.notes" 309) Z (.ref 192) .none) ::
 (nat_lit 194,hT []) ::
 (nat_lit 196,hT [hS "self" 457,hS "depth" 458,hS "ways" 459]) ::
 (nat_lit 197,hT []) ::
 (nat_lit 199,hC "read_ways" "Reader.read_ways" 454 153 2 194 195 (.ref 196) (.ref 197) 198 460 461) ::
 (nat_lit 200,hF "read_ways" "Reader.read_ways" (ff (top 29) 8) .none .none (hS "hushcards.notes" 309) Z (.ref 199) .none) ::
 (nat_lit 201,hT []) ::
 (nat_lit 203,hT [hS "self" 466,hS "depth" 467,hS "form" 468,hS "places" 469,hS "orders" 470]) ::
 (nat_lit 204,hT []) ::
 (nat_lit 206,hC "read_plan" "Reader.read_plan" 463 161 2 201 202 (.ref 203) (.ref 204) 205 471 472) ::
 (nat_lit 207,hF "read_plan" "Reader.read_plan" (ff (top 29) 9) .none .none (hS "hushcards.notes" 309) Z (.ref 206) .none) ::
 (nat_lit 208,hT [hS "at" 474,hS "words" 475]) ::
 (nat_lit 209,hD (.type "dict") [hE P "__module__" 385 (hS "hushcards.notes" 309),hE P "__firstlineno__" 389 (.int 112 388),hE P "__init__" 397 (.ref 144),hE P "coming" 404 (.ref 151),hE P "take" 412 (.ref 158),hE P "takes" 420 (.ref 165),hE P "need" 428 (.ref 172),hE P "read_numbers" 436 (.ref 179),hE P "read_orders" 444 (.ref 186),hE P "read_way" 453 (.ref 193),hE P "read_ways" 462 (.ref 200),hE P "read_plan" 473 (.ref 207),hE P "__static_attributes__" 476 (.ref 208),hE P "__dict__" 478 (.ref 211),hE P "__weakref__" 480 (.ref 212),hE P "__doc__" 481 .none] 4) ::
 (nat_lit 210,⟨.type "type",Z,.cls {name:="Reader",bases:=[.type "object"],mro:=[.ref 210,.type "object"],ns:=209,qualname:="Reader"},#[Z,Z,J (hS "Reader" 378),J (hS "Reader" 386),J (.builtin "object.__new__"),J (.bool M)]⟩) ::
 (nat_lit 211,hX (.type "getset_descriptor") [hS "__dict__" 477,.ref 210,.builtin "function.__dict__",.builtin "function.__dict__#set"]) ::
 (nat_lit 212,hX (.type "getset_descriptor") [hS "__weakref__" 479,.ref 210,.builtin "ExceptionGroup.__weakref__",.none]) ::
 (nat_lit 215,hT []) ::
 (nat_lit 217,hT [hS "text" 487,hS "many" 488,hS "plan" 489]) ::
 (nat_lit 218,hT []) ::
 (nat_lit 220,hc "plan_read" 484 177 2 215 490) ::
 (nat_lit 221,hf "plan_read" 30 Q8 220) ::
 (nat_lit 222,hT []) ::
 (nat_lit 224,hT [hS "text" 496,hS "row" 497]) ::
 (nat_lit 225,hT []) ::
 (nat_lit 227,hc "row_read" 493 184 1 222 498) ::
 (nat_lit 228,hf "row_read" 31 Q8 227) ::
 (nat_lit 229,hT []) ::
 (nat_lit 231,hT [hS "script" 506,hS "k" 507]) ::
 (nat_lit 232,hT []) ::
 (nat_lit 234,hc "_law_cell_at" 503 192 2 229 508) ::
 (nat_lit 235,hf "_law_cell_at" 33 Bn 234) ::
 (nat_lit 236,hT []) ::
 (nat_lit 238,hT [hS "script" 514,hS "k" 515,hS "cell" 516]) ::
 (nat_lit 239,hT []) ::
 (nat_lit 241,hc "_law_state" 511 196 2 236 517) ::
 (nat_lit 242,hf "_law_state" 34 Bn 241) ::
 (nat_lit 243,hT []) ::
 (nat_lit 245,hT [hS "state" 523,hS "many" 524,hS "found" 525,hS "mixed" 526]) ::
 (nat_lit 246,hT []) ::
 (nat_lit 248,hc "_law_take" 520 201 2 243 527) ::
 (nat_lit 249,hf "_law_take" 35 Bn 248) ::
 (nat_lit 250,hT []) ::
 (nat_lit 253,hC "_law_row" "_law_row" 530 210 2 250 251 .none .none 252 533 534) ::
 (nat_lit 254,hf "_law_row" 36 Bn 253) ::
 (nat_lit 255,hT []) ::
 (nat_lit 258,hC "_law_order" "_law_order" 536 215 2 255 256 .none .none 257 539 540) ::
 (nat_lit 259,hf "_law_order" 37 Bn 258) ::
 (nat_lit 260,hT []) ::
 (nat_lit 263,hC "_law_laid" "_law_laid" 542 218 2 260 261 .none .none 262 545 546) ::
 (nat_lit 264,hf "_law_laid" 38 Bn 263) ::
 (nat_lit 265,hT []) ::
 (nat_lit 268,hC "_law_shuffle" "_law_shuffle" 548 220 2 265 266 .none .none 267 551 552) ::
 (nat_lit 269,hf "_law_shuffle" 39 Bn 268) ::
 (nat_lit 270,hT []) ::
 (nat_lit 272,hT [hS "state" 557,hS "many" 558,hS "order" 559]) ::
 (nat_lit 273,hT []) ::
 (nat_lit 275,hc "_law_end" 554 241 2 270 560) ::
 (nat_lit 276,hf "_law_end" 40 Bn 275) ::
 (nat_lit 277,hT []) ::
 (nat_lit 280,hC "_law_look" "_law_look" 563 244 4 277 278 .none .none 279 566 567) ::
 (nat_lit 281,hf "_law_look" 41 Bn 280) ::
 (nat_lit 282,hT []) ::
 (nat_lit 285,hC "_law_plan" "_law_plan" 569 259 4 282 283 .none .none 284 572 573) ::
 (nat_lit 286,hf "_law_plan" 42 Bn 285) ::
 (nat_lit 287,hT []) ::
 (nat_lit 290,hC "_law_size" "_law_size" 575 276 1 287 288 .none .none 289 578 579) ::
 (nat_lit 291,hf "_law_size" 43 Bn 290) ::
 (nat_lit 292,hT []) ::
 (nat_lit 294,hT [hS "state" 584,hS "rows" 585,hS "deep" 586,hS "again" 587,hS "plan" 588]) ::
 (nat_lit 295,hT []) ::
 (nat_lit 297,hc "_law_drawn" 581 282 4 292 589) ::
 (nat_lit 298,hf "_law_drawn" 44 Bn 297) ::
 (nat_lit 299,hT []) ::
 (nat_lit 302,hC "_law_numbers" "_law_numbers" 592 285 1 299 300 .none .none 301 595 596) ::
 (nat_lit 303,hf "_law_numbers" 45 Bn 302) ::
 (nat_lit 304,hT []) ::
 (nat_lit 307,hC "_law_text" "_law_text" 598 287 1 304 305 .none .none 306 601 602) ::
 (nat_lit 308,hf "_law_text" 46 Bn 307) ::
 (nat_lit 309,hT []) ::
 (nat_lit 312,hC "_law_plain" "_law_plain" 604 299 1 309 310 .none .none 311 607 608) ::
 (nat_lit 313,hf "_law_plain" 47 Bn 312) ::
 (nat_lit 314,hT []) ::
 (nat_lit 317,hC "law" "law" 610 303 1 314 315 .none .none 316 613 614) ::
 (nat_lit 318,hf "law" 48 Bn 317)::[]
def vw:ø:={PySem.Challenge.pw_hushcards_k81_plans_and_rows_written with main:={PySem.Challenge.pw_hushcards_k81_plans_and_rows_written.main with body:=([1,2,4,5,6,7,8,9,11,12,14,15,16,17,18,19,20,21,23,24,25,26,27,28,29,30,31,33,34,35,36,37,38,39,40,41,42,43,44,45,46,47,48]:List Nat).map top}}
def hk:PySem.W.Hook:=PySem.W.kHook Kf [2,3,15,22,23,24,25,28,35,36,37,40,42,43,45,46,47,49,50,52,53,54,57,58,59,62,63,64,67,68,69,72,73,74,77,78,79,82,83,84,86,87,89,90,91,94,95,96,99,100,101,102,105,106,107,109,110,112,113,114,117,118,119,122,123,124,126,127,129,130,138,140,141,143,144,145,147,148,150,151,152,154,155,157,158,159,161,162,164,165,166,168,169,171,172,173,175,176,178,179,180,182,183,185,186,187,189,190,192,193,194,196,197,199,200,201,203,204,206,207,208,209,210,211,212,215,217,218,220,221,222,224,225,227,228,229,231,232,234,235,236,238,239,241,242,243,245,246,248,249,250,253,254,255,258,259,260,263,264,265,268,269,270,272,273,275,276,277,280,281,282,285,286,287,290,291,292,294,295,297,298,299,302,303,304,307,308,309,312,313,314,317,318] (λ_=>by kernel_rfl)
noncomputable abbrev OL:=PySem.Challenge.rw_hushcards_k81_plans_and_rows_written.row
open PySem.W PyProof.Rows PySem.Calls in
abbrev hL (s:Ã):=(PySem.W.openSeen vw ["FIGURES"] (PySem.importedModules OL.prog.main.body) (λs=>PySem.W.xlAt vw [] s&&PySem.W.recOk (PySem.W.RowW.records OL.toRowW) s) M s,hk.obs s)
def Uw {X:Option Ã}{α:Type}{f:Ã->α}{v:α}(e:X.map f=J v):∃s,X=J s/\f s=v:=Ζ.mp e
open PySem.W PyProof.Rows PySem.Calls in
theorem l1 (b:Bool)(w:ß):(Ŧ treeTable OL.prog (ϐ w "special-get-raises" b) 4352).map (λs=>((hL s).1.1,(hL s).1.2.1,(hL s).1.2.2.1))=J (expectedOf vw,bltViewBooted,M):=by
 unfold hL Ŧ Ϫ Ϭ;rw[ϴ,ϵ,϶,Ϸ];cases b<;>kernel_rfl
open PySem.W PyProof.Rows PySem.Calls in
theorem l2 (b:Bool)(w:ß):(Ŧ treeTable OL.prog (ϐ w "special-get-raises" b) 4352).map (λs=>((hL s).1.2.2.2.1,(hL s).1.2.2.2.2.1,(hL s).1.2.2.2.2.2.2.1,(hL s).1.2.2.2.2.2.2.2.2))=J (M,pinGoodD (drecsOf vw),plainGoodD vw ["FIGURES"],clsGoodW vw ["FIGURES"]):=by
 unfold hL Ŧ Ϫ Ϭ;rw[ϴ,ϵ,϶,Ϸ];cases b<;>kernel_rfl
open PySem.W PyProof.Rows PySem.Calls in
theorem l3 (b:Bool)(w:ß):(Ŧ treeTable OL.prog (ϐ w "special-get-raises" b) 4352).map (λs=>(hL s).1.2.2.2.2.2.1)=J (plainGoodE vw (looseW vw ["FIGURES"])):=by
 unfold hL Ŧ Ϫ Ϭ;rw[ϴ,ϵ,϶,Ϸ];cases b<;>kernel_rfl
open PySem.W PyProof.Rows PySem.Calls in
theorem l4 (b:Bool)(w:ß):(Ŧ treeTable OL.prog (ϐ w "special-get-raises" b) 4352).map (λs=>((hL s).1.2.2.2.2.2.2.2.1,(hL s).2))=J (wideGood vw,hk.val (ϐ w "special-get-raises" b)):=by
 unfold hL Ŧ Ϫ Ϭ;rw[ϴ,ϵ,϶,Ϸ];cases b<;>kernel_rfl
theorem left:PySem.W.LeftO OL.prog vw ["FIGURES"] (λs=>PySem.W.xlAt vw [] s&&PySem.W.recOk (PySem.W.RowW.records OL.toRowW) s) hk.obs hk.val 4352:=λw=>by
 have a:=l1 (adm w.params "special-get-raises") w;have b:=l2 (adm w.params "special-get-raises") w;have c:=l3 (adm w.params "special-get-raises") w;have d:=l4 (adm w.params "special-get-raises") w;rw[PySem.World.withFollow_self] at a b c d;obtain⟨s,e,a⟩:=Uw a;rw[e] at b c d |-;have b:=ó b;have d:=ó d;simp only[Prod.mk.injEq] at a b d;exact congrArg J (Ŋ (Ŋ a.1 (Ŋ a.2.1 (Ŋ a.2.2 (Ŋ b.1 (Ŋ b.2.1 (Ŋ (ó c) (Ŋ b.2.2.1 (Ŋ d.1 b.2.2.2)))))))) d.2)
end Hc
namespace L2
noncomputable abbrev md:=Sum Int Str
noncomputable def vX:md->F->Bool
 | .inl k,v=>Value.isInt k v
 | .inr x,v=>Value.isStrOf x v
noncomputable def VZ (w:ß):md->Int
 | .inl k=>hashInt k
 | .inr x=>hashStr w x
theorem cL:∀{k:md} {v:F},vX k v=M->(∃i t,k=Sum.inl i/\v=Value.int i t)\/(∃x t,k=Sum.inr x/\v=Value.str x t)
 | .inl i,v,h=>by
  obtain⟨t,e⟩:=Value.isInt_shape h;exact .inl ⟨i,t,rfl,e⟩
 | .inr x,v,h=>by
  obtain⟨t,e⟩:=Value.isStrOf_shape h;exact .inr ⟨x,t,rfl,e⟩
def EF (i:Int)(t:Tok):vX (.inl i) (.int i t)=M:=by simp[vX,Value.isInt]
def EG (x:Str)(t:Tok):vX (.inr x) (.str x t)=M:=by simp[vX,Value.isStrOf]
theorem Pa (a b:Int):decide ((Sum.inl a:md)=Sum.inl b)=(a==b):=by
 lia
def Pb (a b:Str):decide ((Sum.inr a:md)=Sum.inr b)=decide (a=b):=by
 by_cases e:a=b
 ·simp
 ·have h:¬(Sum.inr a:md)=Sum.inr b:=λq=>e (Sum.inr.inj q);rw[hJ h,hJ e]
def Pc (a:Int)(b:Str):decide ((Sum.inl a:md)=Sum.inr b)=Y:=hJ (λq=>nomatch q)
def Pd (a:Str)(b:Int):decide ((Sum.inr a:md)=Sum.inl b)=Y:=hJ (λq=>nomatch q)
def iR (prog:ø)(w:ß):PySem.KeyKind prog w md where
 is:=vX
 hash:=VZ w
 inj:=λv a b ha hb=>by
  rcases cL ha with⟨i,t,rfl,rfl⟩|⟨x,t,rfl,rfl⟩
  ·rcases cL hb with⟨j,u,rfl,e⟩|⟨y,u,rfl,e⟩
   ·injection e with e1 _;rw[e1]
   lia
  ·rcases cL hb with⟨j,u,rfl,e⟩|⟨y,u,rfl,e⟩
   ·lia
   ·injection e with e1 _;rw[e1]
 byValue:=λk v h=>by
  rcases cL h with⟨i,t,rfl,rfl⟩|⟨x,t,rfl,rfl⟩<;>rfl
 pyHash:=λhv h=>by
  rcases cL hv with⟨i,t,rfl,rfl⟩|⟨x,t,rfl,rfl⟩
  ·exact wpAny_pyHash_int h
  ·exact wpAny_pyHash_str h
 eqBool:=λhu hv h=>by
  rcases cL hu with⟨i,t,rfl,rfl⟩|⟨x,t,rfl,rfl⟩
  ·rcases cL hv with⟨j,u,rfl,rfl⟩|⟨y,u,rfl,rfl⟩
   ·rw[Pa] at h;exact wpAny_eqBool_int h
   ·rw[Pc] at h;exact SeqAt.EqAt.int_str i t y u _ _ _ _ h
  ·rcases cL hv with⟨j,u,rfl,rfl⟩|⟨y,u,rfl,rfl⟩
   ·rw[Pd] at h;exact SeqAt.EqAt.str_int x t j u _ _ _ _ h
   ·rw[Pb] at h;exact wpAny_eqBool_str h
 «strs»:=λk x t v h=>by
  rcases cL h with⟨i,u,rfl,e⟩|⟨y,u,rfl,e⟩
  ·lia
  ·injection e with e1 _
   subst e1;cases v<;>rfl
def yT (prog:ø)(w:ß)(i:Int)(t:Tok):(iR prog w).is (.inl i) (.int i t)=M:=EF i t
def ky (prog:ø)(w:ß)(x:Str)(t:Tok):(iR prog w).is (.inr x) (.str x t)=M:=EG x t
end L2
namespace L2
inductive V where
 |non|bl (b:Bool)|int (i:Int)|str (x:Str)|byt (b:Array UInt8)|flt (b:UInt64)|ref (a:G)|ty (n:String)
 deriving DecidableEq
def bE:V->F->Prop
 | .non,u=>u=Value.none
 | .bl b,u=>u=Value.bool b
 | .int i,u=>∃t,u=Value.int i t
 | .str x,u=>∃t,u=Value.str x t
 | .byt b,u=>∃t,u=Value.bytes b t
 | .flt b,u=>∃t,u=Value.float b t
 | .ref a,u=>u=Value.ref a
 | .ty n,u=>u=Value.type n
abbrev bf:List V->List F->Prop:=Paired bE
def bf.length {xs:List V}{us:List F}(r:bf xs us):xs.length=us.length:=Paired.length r
theorem bf.get:∀{xs:List V} {us:List F} {i:Nat} {x:V},bf xs us->xs[i]? = J x->∃u,us[i]? = J u/\bE x u
 |_,_,_,_,.nil,e=>by simp at e
 |_,_,0,_,.cons r _,e=>by simp at e;subst e;exact⟨_,rfl,r⟩
 |_,_,i+1,x,.cons _ t,e=>by
  obtain⟨u,h1,h2⟩:=bf.get t (by simpa using e);exact⟨u,by simpa using h1,h2⟩
theorem bf.set {x:V}{u:F}(r:bE x u):∀{xs:List V} {us:List F} (i:Nat),bf xs us->bf (xs.set i x) (us.set i u)
 |_,_,_,.nil=>.nil
 |_,_,0,.cons _ t=>.cons r t
 |_,_,i+1,.cons q t=>.cons q (bf.set r i t)
theorem bf.append:∀{xs ys:List V} {us ws:List F},bf xs us->bf ys ws->bf (xs++ys) (us++ws)
 |_,_,_,_,.nil,s=>s
 |_,_,_,_,.cons r t,s=>.cons r (bf.append t s)
theorem bf.take:∀{xs:List V} {us:List F} (n:Nat),bf xs us->bf (xs.take n) (us.take n)
 |_,_,0,_=>.nil
 |_,_,_+1,.nil=>.nil
 |_,_,n+1,.cons r t=>.cons r (bf.take n t)
theorem bf.drop:∀{xs:List V} {us:List F} (n:Nat),bf xs us->bf (xs.drop n) (us.drop n)
 |_,_,0,r=>r
 |_,_,_+1,.nil=>.nil
 |_,_,n+1,.cons _ t=>bf.drop n t
def o_:Option V->Option F->Prop
 |some v,J u=>bE v u
 |none,Z=>True
 |_,_=>False
def KV {κ:Type}:List (κ×V)->List (κ×F)->Prop:=Paired λ(p:κ×V) (q:κ×F)=>p.1=q.1/\bE p.2 q.2
noncomputable def kV:md->V
 | .inl i=>.int i
 | .inr x=>.str x
inductive HO where
 |lst (xs:List V)
 |tup (xs:List V)
 |dK (gU:List (md×V))|dT (gU:List (List md×V))
 |set (S:Int->Bool) (n:Nat)
 |ins (C dx:G) (fs:List (Str×V))
 |own (x:G)
 |xd (fs:List (Str×V))
 |met (f x:G)
 |rng (lo hi:Int)
 |frz (o:Obj) (u:HO)
 |tbl (ps:Array F)
 |ext (φ:Í->Prop)
noncomputable abbrev Hp:=G->Option HO
noncomputable def cT (H:Hp)(a:G)(o:HO):Hp:=λb=>if b=a then J o else H b
def aW {H:Hp}{o:HO}:cT H a o a=J o:=by unfold cT;rw[hV rfl]
def aL {H:Hp}{o:HO}(h:b≠a):cT H a o b=H b:=by unfold cT;rw[hU h]
theorem cu {H:Hp}{o:HO}(h:H a=J o)(h':H b=Z):a≠b:=by
 lia
section
variable (P:ø)(w:ß)
def dE (H:Hp)(h:Í)(a:G):HO->Prop
 | .lst xs=>xs.length<=Â/\∃(its:List F) (n:Nat),bf xs its/\h.get? a=J {cls:=.type "list",data:=.seq its.toArray n}
 | .tup xs=>xs.length<=Â/\∃its:List F,bf xs its/\IsTup h a its.toArray/\∃n,h.get? a=J {cls:=.type "tuple",data:=.seq its.toArray n}
 | .dK gU=>gU.length<=Â/\(a==sysModules)=Y/\∃vs,KV gU vs/\h.DictOf (iR P w) a vs
 | .dT gU=>gU.length<=Â/\(a==sysModules)=Y/\∃xs:List (List md×G×F),
   Paired (λ(p:List md×V) (q:List md×G×F)=>p.1=q.1/\H q.2.1=J (.tup (p.1.map kV))/\bE p.2 q.2.2) gU xs/\
   ∃o es ep,h.get? a=J o/\o.ExactDict/\o.data=.dict es ep/\es.toList=xs.map (entryOfKey (tupleKind (iR P w)))/\(xs.map (·.1)).Nodup
 | .set S n=>h.SetOf (intKind P w) a S n
 | .ins C dx fs=>H dx=J (.own a)/\fs.length<=1000/\dx≠a/\h.get? a=J (Φ C dx)/\
   ∃mA,h.Ns1 dx mA/\(∀f,o_ (fs.lookup f) (mA f))/\PySem.Within mA (fs.map (·.1))
 | .own _=>∃o,h.get? a=J o
 | .xd fs=>∃mA,h.Ns1 a mA/\∀f,o_ (fs.lookup f) (mA f)
 | .rng lo hi=>∃t u v,h.get? a=J {cls:=.type "range",data:=.fields #[.int lo t,.int hi u,.int 1 v]}
 | .frz o u=>h.get? a=J o/\dE H h a u
 | .tbl ps=>h.get? a=J {cls:=.none,data:=.fields ps}
 | .met f x=>h.get? a=J (PySem.W.methodObj (.ref f) (.ref x))
 | .ext φ=>φ h/\(∃o,h.get? a=J o)/\∀h1 h2:Í,φ h1->(∀o,h1.get? a=J o->h2.get? a=J o)->φ h2
def pb (H:Hp)(h:Í):Prop:=∀a o,H a=J o->dE P w H h a o
end
section
variable {H H':Hp}{o:HO}
theorem dE.lt (x:dE P w H h a o):a<h.objs.size:=by
 cases o with
 |lst xs=>obtain⟨_,_,_,_,e⟩:=x;exact Û e
 |tup xs=>obtain⟨_,_,_,p,_⟩:=x;exact p.lt
 |dK gU=>obtain⟨_,_,_,_,o,_,_,e,_⟩:=x;exact Û e
 |dT gU=>obtain⟨_,_,_,_,o,_,_,e,_⟩:=x;exact Û e
 |set S n=>obtain⟨o,_,_,_,e,_⟩:=x;exact Û e
 |ins C dx fs=>obtain⟨_,_,_,e,_⟩:=x;exact Û e
 |own y=>obtain⟨_,e⟩:=x;exact Û e
 |xd fs=>obtain⟨_,⟨_,_,_,e,_⟩,_⟩:=x;exact Û e
 |rng lo hi=>obtain⟨_,_,_,e⟩:=x;exact Û e
 |frz ob u=>obtain⟨e,_⟩:=x;exact Û e
 |tbl ps=>exact Û (show h.get? a=J _ from x)
 |met f y=>exact Û (show h.get? a=J _ from x)
 |ext φ=>obtain⟨_,⟨_,e⟩,_⟩:=x;exact Û e
theorem Paired.mapP {α β:Type}{F G:α->β->Prop}:∀{l₁:List α} {l₂:List β},Paired F l₁ l₂->(∀a b,F a b->G a b)->Paired G l₁ l₂
 |_,_,.nil,_=>.nil
 |_,_,.cons r t,f=>.cons (f _ _ r) (Paired.mapP t f)
theorem dE.stay (x:dE P w H h a o)(k:∀b u,(b=a\/H b=J (.own a))->h.get? b=J u->h'.get? b=J u)
  (ho:∀b,H b=J (.own a)->H' b=J (.own a)) (ht:∀b xs,H b=J (.tup xs)->H' b=J (.tup xs)):dE P w H' h' a o:=by
 induction o with
 |lst xs=>obtain⟨z,its,n,r,e⟩:=x;exact⟨z,its,n,r,k _ _ (.inl rfl) e⟩
 |tup xs=>obtain⟨z,its,r,⟨ob,e,c⟩,n2,e2⟩:=x;exact⟨z,its,r,⟨ob,k _ _ (.inl rfl) e,c⟩,n2,k _ _ (.inl rfl) e2⟩
 |dK gU=>obtain⟨z,y,vs,r,ob,es,ep,e,c⟩:=x;exact⟨z,y,vs,r,ob,es,ep,k _ _ (.inl rfl) e,c⟩
 |dT gU=>
  obtain⟨z,y,xs,r,ob,es,ep,e,c⟩:=x;exact⟨z,y,xs,Paired.mapP r λp q z=>⟨z.1,ht _ _ z.2.1,z.2.2⟩,ob,es,ep,k _ _ (.inl rfl) e,c⟩
 |set S n=>obtain⟨ob,es,ep,t,e,c⟩:=x;exact⟨ob,es,ep,t,k _ _ (.inl rfl) e,c⟩
 |ins C dx fs=>
  obtain⟨d,z,ne,e,mA,⟨od,es,ep,e2,c⟩,r⟩:=x;exact⟨ho _ d,z,ne,k _ _ (.inl rfl) e,mA,⟨od,es,ep,k _ _ (.inr d) e2,c⟩,r⟩
 |own y=>obtain⟨ob,e⟩:=x;exact⟨ob,k _ _ (.inl rfl) e⟩
 |xd fs=>obtain⟨mA,⟨od,es,ep,e,c⟩,r⟩:=x;exact⟨mA,⟨od,es,ep,k _ _ (.inl rfl) e,c⟩,r⟩
 |rng lo hi=>obtain⟨t,u,v,e⟩:=x;exact⟨t,u,v,k _ _ (.inl rfl) e⟩
 |frz ob u ih=>obtain⟨e,q⟩:=x;exact⟨k _ _ (.inl rfl) e,ih q⟩
 |tbl ps=>
  have e:=x;exact k a _ (.inl rfl) e
 |met f y=>
  have e:=x;exact k a _ (.inl rfl) e
 |ext φ=>obtain⟨p,⟨o,e⟩,st⟩:=x;exact⟨st _ _ p λo q=>k _ _ (.inl rfl) q,⟨o,k _ _ (.inl rfl) e⟩,st⟩
def pb.lt (x:pb P w H h)(e:H a=J o):a<h.objs.size:=(x a o e).lt
theorem pb.fresh (x:pb P w H h)(e:h.objs.size<=a):H a=Z:=by
 cases q:H a with
 |none=>rfl
 |some u=>exact absurd (ć (x.lt q) e) (ı _)
def pb.kept (x:pb P w H h)(k:∀b u,h.get? b=J u->h'.get? b=J u):pb P w H h':=λa o e=>
 (x a o e).stay (λb u _ q=>k b u q) (λ_ q=>q) λ_ _ q=>q
theorem pb.laid (x:pb P w H h)(k:∀b u,h.get? b=J u->h'.get? b=J u)(hp:h.objs.size<=a)(new:dE P w (cT H a o) h' a o):pb P w (cT H a o) h':=λb u e=>by
 have hn:=x.fresh hp;by_cases hb:b=a
 ·simp_all[aW]
 ·rw[aL hb] at e;exact (x b u e).stay (λc v _ q=>k c v q) (λc q=>by rw[aL (cu q hn)];exact q) λc xs q=>by rw[aL (cu q hn)];exact q
end
def Rd (H:Hp)(a:G)(u:HO):Prop:=H a=J u\/∃o,H a=J (.frz o u)
theorem Rd.ok {H:Hp}{u:HO}(r:Rd H a u)(x:pb P w H h):dE P w H h a u:=by
 rcases r with r|⟨o,r⟩
 ·exact x a u r
 ·obtain⟨_,q⟩:=x a _ r;exact q
def Vo:Option HO->Prop
 |some (.lst _)=>True
 |some (.dK _)=>True
 |some (.dT _)=>True
 |some (.set _ _)=>True
 |some (.ins _ _ _)=>True
 |some (.ext _)=>True
 |_=>False
section
variable {H:Hp}{x e:G}{o':HO}
theorem pb.write (ok:pb P w H h)(mu:Vo (H x))(he:e=x\/H e=J (.own x))(k:∀b u,b≠e->h.get? b=J u->h'.get? b=J u)(SM:∃u,h'.get? e=J u)
  (new:dE P w (cT H x o') h' x o'):pb P w (cT H x o') h':=λb u q=>by
 have UU:∀c y,H c=J (.own y)->c≠x:=λc y r z=>by subst z;rw[r] at mu;exact mu
 have Xd:∀c xs,H c=J (.tup xs)->c≠x:=λc xs r z=>by subst z;rw[r] at mu;exact mu
 by_cases hb:b=x
 ·simp_all[aW]
 ·rw[aL hb] at q;by_cases hbe:b=e
  ·have q':H b=J (.own x):=by
    rcases he with z|z
    ·exact absurd (hbe.trans z) hb
    ·rw[hbe];exact z
   rw[q] at q';cases q';obtain⟨v,hv⟩:=SM;exact⟨v,by rw[hbe];exact hv⟩
  ·refine (ok b u q).stay (λc v hc r=>k c v ?_ r) (λc r=>by rw[aL (UU c b r)];exact r) λc xs r=>by rw[aL (Xd c xs r)];exact r
   grind
end
structure Un (fs ex:List G)(H H':Hp)(h h':Í):Prop where
 keep:∀b o,h.get? b=J o->H b=Z->b∉fs->b∉ex->h'.get? b=J o
 slot:∀b o,h.get? b=J o->H b=Z->b∈fs->b∉ex->∃sl,h'.get? b=J {o with slots:=sl}
 free:∀b o,h.get? b=J o->H b=Z->b∉ex->H' b=Z
 there:∀b o,h.get? b=J o->b∉ex->∃o',h'.get? b=J o'
 tups:∀b xs,H b=J (.tup xs)->H' b=J (.tup xs)
 frzs:∀b o u,H b=J (.frz o u)->H' b=J (.frz o u)
 tbls:∀b ps,H b=J (.tbl ps)->∃more,H' b=J (.tbl (ps++more))
section
variable {fs fs' ex ex':List G}{H H1 H2:Hp}{h1 h2:Í}{x e:G}{o:HO}
def Un.any (u:Un fs ex H H1 h h1){ob:Obj}(q:h.get? b=J ob)(n:H b=Z)(hx:b∉ex):∃sl,h1.get? b=J {ob with slots:=sl}:=by
 by_cases hb:b∈fs
 ·exact u.slot b ob q n hb hx
 ·exact⟨ob.slots,u.keep b ob q n hb hx⟩
def Un.kept (k:∀b u,h.get? b=J u->h'.get? b=J u):Un fs ex H H h h' :=
 ⟨λb ob q _ _ _=>k b ob q,λb ob q _ _ _=>⟨ob.slots,k b ob q⟩,λ_ _ _ n _=>n,λb ob q _=>⟨ob,k b ob q⟩,λ_ _ q=>q,λ_ _ _ q=>q,λ_ ps q=>⟨#[],by rw[q];simp⟩⟩
def Un.refl:Un fs ex H H h h:=Un.kept λ_ _ q=>q
def Un.laid (k:∀b u,h.get? b=J u->h'.get? b=J u)(hp:h.objs.size<=a)(hn:H a=Z):Un fs ex H (cT H a o) h h' where
 keep:=λb u q _ _ _=>k b u q
 slot:=λb u q _ _ _=>⟨u.slots,k b u q⟩
 free:=λb u q n _=>by rw[aL (è (ć (Û q) hp))];exact n
 there:=λb u q _=>⟨u,k b u q⟩
 tups:=λb xs q=>by rw[aL (cu q hn)];exact q
 frzs:=λb u xs q=>by rw[aL (cu q hn)];exact q
 tbls:=λb ps q=>⟨#[],by rw[aL (cu q hn),q];simp⟩
theorem Un.write (mu:Vo (H x))(he:e=x\/H e=J (.own x))(k:∀b u,b≠e->h.get? b=J u->h'.get? b=J u)(SM:∃u,h'.get? e=J u):Un fs ex H (cT H x o) h h':=by
 have hx:∀b,H b=Z->b≠x:=λb n z=>by subst z;rw[n] at mu;exact mu
 have hb:∀b,H b=Z->b≠e:=λb n z=>by
  lia
 have hm:∀b u,H b=J u->¬Vo (J u)->b≠x:=λb u q nm z=>by subst z;rw[q] at mu;exact nm mu
 refine⟨λb u q n _ _=>k b u (hb b n) q,λb u q n _ _=>⟨u.slots,k b u (hb b n) q⟩,λb u q n _=>by rw[aL (hx b n)];exact n,λb u q _=>?_,
  λb xs q=>by rw[aL (hm b _ q λz=>z)];exact q,λb u xs q=>by rw[aL (hm b _ q λz=>z)];exact q,λb ps q=>⟨#[],by rw[aL (hm b _ q λz=>z),q];simp⟩⟩
 by_cases hbe:b=e
 ·subst hbe;exact SM
 ·exact⟨u,k b u hbe q⟩
end
noncomputable def X1 (h:Í)(H:Hp):List G:=(ê h.objs.size).filter λa=>(H a).isSome
def EH (h:Í)(H:Hp):Í:=PySem.W.hideAll h (X1 h H)
def EI (h:Í)(H:Hp):(EH h H).objs.size=h.objs.size:=PySem.W.hideAll_size _ _
def Gs {H:Hp}{o:Obj}(e:h.get? b=J o)(n:H b=Z):(EH h H).get? b=J o:=
 PySem.W.hideAll_get _ e λhm=>by
  have q:=(ϧ.mp hm).2;rw[n] at q;simp at q
theorem K6 {H:Hp}{o:Obj}(e:(EH h H).get? b=J o):h.get? b=J o/\H b=Z:=by
 have e' :=PySem.W.of_hideAll _ e;refine⟨e',?_⟩;cases q:H b with
 |none=>rfl
 |some x=>
  have hm:b∈X1 h H:=ϧ.mpr ⟨Č.mpr (Û e'),by simp[q]⟩;have z:(EH h H).get? b=Z:=PySem.W.hideAll_none _ hm;rw[z] at e;cases e
end L2
variable {xs vs:List L2.V}{H H' H1 H2:L2.Hp}{v:L2.V}
namespace L2
structure Mod (K:Ê)(mg:Str->Option F)(base:Í):Prop where
 kin:K.In base
 glob:base.Ns ç mg
 blt:∃mb,base.Ns builtinsNs mb/\∀x:Str,x≠"__name__"->mb x=þ x
 nolimit:base.NoLimit
structure Cx where
 prog:ø
 w:ß
 K:Ê
 mg:Str->Option F
 base:Í
 A:Ñ
 N:List Str
 s₀:Ã
 H₀:Hp
 env:Env
 outer:List Env
 stack:List Env
 ex:List G
 fn:Str->Bool
 calm:Bool
 pn:List (G×Obj)
 xe:F->Ã->Prop
noncomputable def EJ (l:List Env):List G:=l.filterMap (·.frame)
abbrev Cx.fs (X:Cx):List G:=EJ X.outer
def EK (sc:Ā)(x:Str):Prop:=sc.names.lookup x=J .local\/sc.names.lookup x=J .cell\/sc.names.lookup x=J .free
def CI (sc:Ā)(x:Str):Prop:=sc.names.lookup x=J .local\/sc.names.lookup x=J .cell
def V0 (env:Env)(h:Í)(m:Str->Option F)(x:Str)(u:F):Prop:=
 (env.kindOf x=J .local/\m x=J u)\/((env.kindOf x=J .cell\/env.kindOf x=J .free)/\∃c,env.cells.lookup x=J c/\h.IsCell c (J u))
structure Cx.Ok (X:Cx):Prop where
 mod:Mod X.K X.mg X.base
 kind:X.env.scope.kind=.function
 glob:X.env.globals=ç
 blt:X.env.builtins=builtinsNs
 above:X.s₀.heap.objs.size<=X.env.locals
 inj:∀x y c,X.env.cells.lookup x=J c->X.env.cells.lookup y=J c->x=y
 has:∀x,(X.env.kindOf x=J .cell\/X.env.kindOf x=J .free)->∃c,X.env.cells.lookup x=J c
 cab:∀x c,X.fn x=M->X.env.cells.lookup x=J c->X.s₀.heap.objs.size<=c
 hd:X.calm=M->X.A.handled=Z
 frames:X.A.frames=J X.stack
 stk:X.stack=X.outer\/(X.stack=X.env::X.outer/\X.env.frame=J X.env.locals)
 exf:∀b∈X.ex,b≠X.env.locals/\∀x c,X.env.cells.lookup x=J c->c≠b
 bs:∀b o,X.base.get? b=J o->X.s₀.heap.get? b=J o/\X.H₀ b=Z
 bsz:X.base.objs.size<=X.s₀.heap.objs.size
 noex:∀b o,X.base.get? b=J o->b∉X.ex
 exfs:∀b∈X.ex,b∉X.fs
 funs:X.s₀.heap.FunFrames X.base X.outer
 frf:∀b∈X.fs,X.H₀ b=Z
structure aP (X:Cx)(pins:List (G×Obj))(L:List (Option V))(H:Hp)(s:Ã):Prop where
 ok:X.Ok
 os:s.os=X.s₀.os
 bare:AllBare s.gens
 base:Un X.fs X.ex X.H₀ H X.s₀.heap s.heap
 loc:∃m,s.heap.Ns X.env.locals m/\∀(i:Nat) (x:Str) (v:V),X.N[i]? = J x->L[i]? = J (J v)->EK X.env.scope x->∃u,bE v u/\V0 X.env s.heap m x u
 cell:∀x c,X.env.cells.lookup x=J c->∃v,s.heap.IsCell c v
 free:H X.env.locals=Z
 freeC:∀x c,X.env.cells.lookup x=J c->H c=Z
 pin:∀p∈X.pn++pins,s.heap.get? p.1=J p.2/\H p.1=Z/\p.1≠X.env.locals/\p.1∉X.fs/\∀v,p.2.data≠.cell v
 hok:pb X.prog X.w H s.heap
 len:L.length=X.N.length
section
variable {X:Cx}{L:List (Option V)}
theorem Cx.Ok.nofr (ok:X.Ok){o:Obj}(e:X.base.get? b=J o):b∉X.fs:=λhb=>by
 have:=(ok.funs.mem hb).1;lia
def aP.bs (I:aP X pins L H s):∀b o,X.base.get? b=J o->s.heap.get? b=J o/\H b=Z:=λb o e=>
 ⟨I.base.keep b o (I.ok.bs b o e).1 (I.ok.bs b o e).2 (I.ok.nofr e) (I.ok.noex b o e),I.base.free b o (I.ok.bs b o e).1 (I.ok.bs b o e).2 (I.ok.noex b o e)⟩
def aP.bk (I:aP X pins L H s):∀b o,X.base.get? b=J o->s.heap.get? b=J o:=λb o e=>(I.bs b o e).1
def aP.mod (I:aP X pins L H s):Mod X.K X.mg X.base:=I.ok.mod
def aP.kIn (I:aP X pins L H s):X.K.In s.heap:=I.ok.mod.kin.keeps I.bk
def aP.lt (I:aP X pins L H s):X.env.locals<s.heap.objs.size:=let ⟨_,hn,_⟩:=I.loc;hn.lt
def aP.sz (I:aP X pins L H s):X.s₀.heap.objs.size<=s.heap.objs.size:=ä I.ok.above (ό I.lt)
theorem aP.nofs (I:aP X pins L H s)(h:s.heap.objs.size<=a):a∉X.fs:=λhb=>by
 obtain⟨_,o,ho,_⟩:=I.ok.funs.mem hb;exact absurd (ć (Û ho) (ä I.sz h)) (ı _)
theorem aP.cne (I:aP X pins L H s):∀x c,X.env.cells.lookup x=J c->c≠X.env.locals:=λx c e z=>by
 obtain⟨v,o,ho,hd⟩:=I.cell x c e;obtain⟨m,⟨o',es,ep,Cz,hd',_⟩,_⟩:=I.loc;lia
theorem aP.funs (I:aP X pins L H s):s.heap.FunFrames X.base X.outer:=by
 have all:∀(l:List Env),(∀b∈EJ l,b∈X.fs)->X.s₀.heap.FunFrames X.base l->s.heap.FunFrames X.base l:=by
  intro l
  induction l with
  |nil=>intro _ _;trivial
  |cons env r ih=>
   intro hs hl;obtain⟨hk,⟨Lq,o,hf,hn,ho,hd⟩,hr⟩:=hl;have hL:=hs Lq (by unfold EJ;rw[aeX,hf];exact Ú);obtain⟨sl,e⟩:=I.base.slot Lq o ho (I.ok.frf Lq hL) hL λz=>I.ok.exfs Lq z hL;exact⟨hk,⟨Lq,_,hf,hn,e,hd⟩,ih (λb hb=>hs b (by unfold EJ;rw[aeX,hf];exact Ý _ hb)) hr⟩
 exact all _ (λ_ hb=>hb) I.ok.funs
theorem aP.stack (I:aP X pins L H s):s.heap.FunFrames X.base X.stack:=by
 rcases I.ok.stk with e|⟨e,hf⟩
 ·rw[e];exact I.funs
 ·rw[e];obtain⟨m,hn,_⟩:=I.loc;refine .cons (by rw[I.ok.kind];decide) hf hn ?_ I.funs;exact Heap.get?_none_of_le (ä I.ok.bsz I.ok.above)
theorem aP.stkSub (I:aP X pins L H s):∀b∈EJ X.stack,b∈X.env.locals::X.fs:=λb hb=>by
 rcases I.ok.stk with e|⟨e,hf⟩
 ·rw[e] at hb;exact Ý _ hb
 ·rw[e] at hb;unfold EJ at hb;rw[aeX,hf] at hb;exact hb
theorem aP.stkFree (I:aP X pins L H s):∀b∈EJ X.stack,H b=Z:=λb hb=>by
 rcases à.mp (I.stkSub b hb) with e|hb
 ·rw[e];exact I.free
 ·obtain⟨_,o,ho,_⟩:=I.ok.funs.mem hb;exact I.base.free b o ho (I.ok.frf b hb) λz=>I.ok.exfs b z hb
theorem aP.step {t':Nat}{g':Array GenState}{d':Drawn}(I:aP X pins L H s)(K0:∀b∈ch,(b∈X.ex\/X.s₀.heap.objs.size<=b)/\b≠X.env.locals/\(∀x c,X.env.cells.lookup x=J c->c≠b)/\∀p∈X.pn++pins,p.1≠b)(keep:∀b o,b≠X.env.locals->b∉X.fs->b∉ch->s.heap.get? b=J o->H b=Z->h'.get? b=J o)(slot:∀b o,b≠X.env.locals->b∈X.fs->b∉ch->s.heap.get? b=J o->H b=Z->∃sl,h'.get? b=J {o with slots:=sl})(free:∀b o,b∉ch->s.heap.get? b=J o->H b=Z->H' b=Z)(there:∀b o,b∉ch->s.heap.get? b=J o->∃o',h'.get? b=J o')(tups:∀b xs,H b=J (.tup xs)->H' b=J (.tup xs))(frzs:∀b o u,H b=J (.frz o u)->H' b=J (.frz o u))(tbls:∀b ps,H b=J (.tbl ps)->∃more,H' b=J (.tbl (ps++more)))(ns:∀m,s.heap.Ns X.env.locals m->h'.Ns X.env.locals m)(hok:pb X.prog X.w H' h')(hg:AllBare g') :
  aP X pins L H' {s with heap:=h',gens:=g',drawn:=d',toks:=t'}:=by
 have Ys:∀b o,X.s₀.heap.get? b=J o->b≠X.env.locals:=λb o e=>è (ć (Û e) I.ok.above);have VL:∀b o,X.s₀.heap.get? b=J o->b∉X.ex->b∉ch:=λb o e hx hb=>by
  rcases (K0 b hb).1 with z|z
  ·exact hx z
  ·exact absurd (ć (Û e) z) (ı _)
 have OZ:∀x c,X.env.cells.lookup x=J c->∀v,s.heap.IsCell c v->h'.IsCell c v:=λx c e v h00=>by
  obtain⟨o,ho,hd⟩:=h00;have UW:=λz=>(K0 c z).2.2.1 x c e rfl;by_cases hc:c∈X.fs
  ·obtain⟨sl,q⟩:=slot c o (I.cne x c e) hc UW ho (I.freeC x c e);exact⟨_,q,hd⟩
  ·exact⟨o,keep c o (I.cne x c e) hc UW ho (I.freeC x c e),hd⟩
 refine⟨I.ok,I.os,hg,⟨λb o e n hb hx=>?_,λb o e n hb hx=>?_,λb o e n hx=>?_,λb o e hx=>?_,λb xs e=>tups b xs (I.base.tups b xs e),λb o xs e=>frzs b o xs (I.base.frzs b o xs e),λb ps e=>?_⟩,?_,λx c e=>?_,?_,λx c e=>?_,λp hp=>?_,hok,I.len⟩
 ·exact keep b o (Ys b o e) hb (VL b o e hx) (I.base.keep b o e n hb hx) (I.base.free b o e n hx)
 ·obtain⟨sl,e1⟩:=I.base.slot b o e n hb hx;obtain⟨sl',e2⟩:=slot b _ (Ys b o e) hb (VL b o e hx) e1 (I.base.free b o e n hx);exact⟨sl',e2⟩
 ·obtain⟨o',e1⟩:=I.base.there b o e hx;exact free b o' (VL b o e hx) e1 (I.base.free b o e n hx)
 ·obtain⟨o',e1⟩:=I.base.there b o e hx;exact there b o' (VL b o e hx) e1
 ·obtain⟨m1,e1⟩:=I.base.tbls b ps e;grind
 ·obtain⟨m,hn,hl⟩:=I.loc;refine⟨m,ns m hn,λi x v e1 e2 e3=>?_⟩;obtain⟨u,r,l⟩:=hl i x v e1 e2 e3;refine⟨u,r,?_⟩;rcases l with l|⟨k,c,e,z⟩
  ·exact .inl l
  ·exact .inr ⟨k,c,e,OZ x c e _ z⟩
 ·obtain⟨v,z⟩:=I.cell x c e;exact⟨v,OZ x c e v z⟩
 ·obtain⟨m,⟨o,_,_,ho,_⟩,_⟩:=I.loc;exact free _ o (λz=>(K0 _ z).2.1 rfl) ho I.free
 ·obtain⟨v,o,ho,hd⟩:=I.cell x c e;exact free c o (λz=>(K0 c z).2.2.1 x c e rfl) ho (I.freeC x c e)
 ·obtain⟨e,n,ne,nf,d⟩:=I.pin p hp;have UW:=λz=>(K0 p.1 z).2.2.2 p hp rfl;exact⟨keep p.1 p.2 ne nf UW e n,free p.1 p.2 UW e n,ne,nf,d⟩
theorem aP.un {t':Nat}(I:aP X pins L H s)(u:Un X.fs [] H H' s.heap h')(hok:pb X.prog X.w H' h'):aP X pins L H' {s with heap:=h',toks:=t'}:=by
 obtain⟨m,⟨o,es,ep,ho,r⟩,_⟩:=id I.loc;obtain⟨sl,hL⟩:=u.any ho I.free (by simp);exact I.step (ch:=[]) (λ_ z=>nomatch z) (λb o _ hb _ e n=>u.keep b o e n hb (by simp)) (λb o _ hb _ e n=>u.slot b o e n hb (by simp)) (λb o _ e n=>u.free b o e n (by simp)) (λb o _ e=>u.there b o e (by simp)) u.tups u.frzs u.tbls (λm' hm=>by
  obtain⟨o',KG,ep',Cz,r'⟩:=hm;rw[ho] at Cz;cases Cz;exact⟨_,KG,ep',hL,r'⟩) hok I.bare
theorem aP.call {t':Nat}{g':Array GenState}{d':Drawn}(I:aP X pins L H s)(u:Un (EJ X.stack) ch H H' s.heap h')(hok:pb X.prog X.w H' h')(hg:AllBare g')(K0:∀b∈ch,(b∈X.ex\/X.s₀.heap.objs.size<=b)/\b≠X.env.locals/\(∀x c,X.env.cells.lookup x=J c->c≠b)/\∀p∈X.pn++pins,p.1≠b) :
  aP X pins L H' {s with heap:=h',gens:=g',drawn:=d',toks:=t'}:=by
 obtain⟨m,⟨o,es,ep,ho,r⟩,_⟩:=id I.loc;obtain⟨sl,hL⟩:=u.any ho I.free λz=>(K0 _ z).2.1 rfl;exact I.step K0 (λb o hL hb hc e n=>u.keep b o e n (λz=>(à.mp (I.stkSub b z)).elim hL hb) hc) (λb o _ _ hc e n=>u.any e n hc) (λb o hc e n=>u.free b o e n hc) (λb o hc e=>u.there b o e hc) u.tups u.frzs u.tbls (λm' hm=>by
  obtain⟨o',KG,ep',Cz,r'⟩:=hm;rw[ho] at Cz;cases Cz;exact⟨_,KG,ep',hL,r'⟩) hok hg
theorem aP.turned {t':Nat}(I:aP X pins L H s)(k:∀b o,b≠it->s.heap.get? b=J o->h'.get? b=J o)(hn:H it=Z)(hL:it≠X.env.locals)(h1:it∈X.ex\/X.s₀.heap.objs.size<=it)(h2:∀x c,X.env.cells.lookup x=J c->c≠it)(h3:∀p∈X.pn++pins,p.1≠it):aP X pins L H {s with heap:=h',toks:=t'}:=by
 have Yt:∀b u,H b=J u->b≠it:=λb u e z=>by lia
 refine I.step (ch:=[it]) (λb hb=>?_) (λb o _ _ hc e _=>k b o (λz=>hc (by simp[z])) e) (λb o _ _ hc e _=>⟨o.slots,k b o (λz=>hc (by simp[z])) e⟩) (λ_ _ _ _ n=>n)
  (λb o hc e=>⟨o,k b o (λz=>hc (by simp[z])) e⟩) (λ_ _ e=>e) (λ_ _ _ e=>e) (λb ps e=>⟨#[],by rw[e];simp⟩) (λm hm=>?_) (λb u e=>?_) I.bare
 ·have e:=by simpa using hb
  subst e;exact⟨h1,hL,h2,h3⟩
 ·obtain⟨o,es,ep,ho,r⟩:=hm;exact⟨o,es,ep,k _ o (Ĝ hL) ho,r⟩
 ·refine (I.hok b u e).stay (λc v hc q=>k c v ?_ q) (λ_ q=>q) λ_ _ q=>q;rcases hc with z|z
  ·rw[z];exact Yt b u e
  ·exact Yt c _ z
def aP.tok (I:aP X pins L H s)(t:Nat):aP X pins L H {s with toks:=t}:=I.un Un.refl I.hok
def aP.kept {t':Nat}(I:aP X pins L H s)(k:∀b u,s.heap.get? b=J u->h'.get? b=J u):aP X pins L H {s with heap:=h',toks:=t'}:=I.un (Un.kept k) (I.hok.kept k)
def aP.laid {t':Nat}{o:HO}(I:aP X pins L H s)(k:∀b u,s.heap.get? b=J u->h'.get? b=J u)(hp:s.heap.objs.size<=a)(new:dE X.prog X.w (cT H a o) h' a o) :
  aP X pins L (cT H a o) {s with heap:=h',toks:=t'}:=I.un (Un.laid k hp (I.hok.fresh hp)) (I.hok.laid k hp new)
def aP.write {t':Nat}{x e:G}{o:HO}(I:aP X pins L H s)(mu:Vo (H x))(he:e=x\/H e=J (.own x))(k:∀b u,b≠e->s.heap.get? b=J u->h'.get? b=J u)(SM:∃u,h'.get? e=J u)(new:dE X.prog X.w (cT H x o) h' x o):aP X pins L (cT H x o) {s with heap:=h',toks:=t'}:=I.un (Un.write mu he k SM) (I.hok.write mu he k SM new)
def aP.pins_of {O0:List (G×Obj)}(I:aP X pins L H s)(h:∀p∈O0,s.heap.get? p.1=J p.2/\H p.1=Z/\p.1≠X.env.locals/\p.1∉X.fs/\∀v,p.2.data≠.cell v):aP X O0 L H s:=
 ⟨I.ok,I.os,I.bare,I.base,I.loc,I.cell,I.free,I.freeC,λp hp=>(ñ.mp hp).elim (λz=>I.pin p (ŷ _ z)) (h p),I.hok,I.len⟩
theorem yU (hN:N.Nodup)(a:N[i]? = J x)(b:N[j]? = J x):i=j:=by
 obtain⟨h1,e1⟩:=ċ.mp a;obtain⟨h2,e2⟩:=ċ.mp b;exact (List.getElem_inj hN).mp (e1.trans e2.symm)
theorem vY {A:Ñ}{u:F}{Q:Unit->Ã->Prop}(I:aP X pins L H s)(hN:X.N.Nodup)(hi:X.N[i]? = J x)(hx:CI X.env.scope x)(r:bE v u)(h:∀s',aP X pins (L.set i (J v)) H s'->(∃a,œ a s.heap s'.heap/\(a=X.env.locals\/X.env.cells.lookup x=J a))->Q () s')(hf:X.fn x=M\/X.env.scope.names.lookup x=J .local:=by first|exact .inl rfl|exact .inr rfl|assumption):Å Mq A (storeName X.env x u) Q E s:=by
 obtain⟨m,hn,hl⟩:=id I.loc;have Xe:(X.env.scope.kind==.class||(X.env.scope.kind==.module&&X.env.locals != X.env.globals))=Y:=by rw[I.ok.kind];rfl
 have Yu:i<L.length:=by rw[I.len];exact (ċ.mp hi).1
 have cne:=I.cne;have EA:∀{a:G} {h':Í},(∃o,s.heap.get? a=J o/\H a=Z)->œ a _ h'->pb _ X.w H h':=λ{a h'} ha hs b ob e=>by
  obtain⟨_,_,vn⟩:=ha;refine (I.hok b ob e).stay (λc w' hc q=>(hs.2 c ?_).trans q) (λ_ q=>q) λ_ _ q=>q;lia
 rcases hx with hk|hk
 ·refine wpAny_storeName_local hk hn (λh' O1 hs=>?_) Xe;obtain⟨oL,_,_,RX,_⟩:=id hn;refine h _ ⟨I.ok,I.os,I.bare,⟨λb o e n hb hx=>?_,λb o e n hb hx=>?_,I.base.free,λb o e hx=>?_,I.base.tups,I.base.frzs,I.base.tbls⟩,⟨_,O1,λj y v' e1 e2 e3=>?_⟩,λy c e=>?_,I.free,I.freeC,λp hp=>?_,EA ⟨oL,RX,I.free⟩ hs,by simpa using I.len⟩ ⟨_,hs,.inl rfl⟩
  ·exact (hs.2 b (è (ć (Û e) I.ok.above))).trans (I.base.keep b o e n hb hx)
  ·obtain⟨sl,e1⟩:=I.base.slot b o e n hb hx;exact⟨sl,(hs.2 b (è (ć (Û e) I.ok.above))).trans e1⟩
  ·obtain⟨o',e1⟩:=I.base.there b o e hx;exact⟨o',(hs.2 b (è (ć (Û e) I.ok.above))).trans e1⟩
  ·by_cases hj:j=i
   ·subst hj;rw[hi] at e1;cases e1;rw[Ϟ Yu] at e2;cases e2;exact⟨u,r,.inl ⟨hk,by simp⟩⟩
   ·rw[Ě (Ĝ hj)] at e2;obtain⟨u',r',q⟩:=hl j y v' e1 e2 e3;refine⟨u',r',?_⟩;rcases q with⟨k,e⟩|⟨k,c,e,z⟩
    ·refine .inl ⟨k,?_⟩;have:y≠x:=λe=>hj (yU hN e1 (e▸hi));simp[this,e]
    ·exact .inr ⟨k,c,e,z.sameBut hs (cne y c e)⟩
  ·obtain⟨w',z⟩:=I.cell y c e;exact⟨w',z.sameBut hs (cne y c e)⟩
  ·obtain⟨e,n,ne,nf,d⟩:=I.pin p hp;exact⟨(hs.2 p.1 ne).trans e,n,ne,nf,d⟩
 ·have Xf:X.fn x=M:=by
   lia
  obtain⟨c,hc⟩:=I.ok.has x (.inl hk);obtain⟨w',z⟩:=I.cell x c hc;refine wpAny_storeName_cell I.ok.kind hk hc z (λh' VM hs=>?_);obtain⟨oc,hoc,hocd⟩:=id z;refine h _ ⟨I.ok,I.os,I.bare,⟨λb o e n hb hx=>?_,λb o e n hb hx=>?_,I.base.free,λb o e hx=>?_,I.base.tups,I.base.frzs,I.base.tbls⟩,⟨m,hn.sameBut hs (Ĝ (cne x c hc)),λj y v' e1 e2 e3=>?_⟩,λy c' e=>?_,I.free,I.freeC,λp hp=>?_,EA ⟨oc,hoc,I.freeC x c hc⟩ hs,by simpa using I.len⟩ ⟨c,hs,.inr hc⟩
  ·exact (hs.2 b (è (ć (Û e) (I.ok.cab x c Xf hc)))).trans (I.base.keep b o e n hb hx)
  ·obtain⟨sl,e1⟩:=I.base.slot b o e n hb hx;exact⟨sl,(hs.2 b (è (ć (Û e) (I.ok.cab x c Xf hc)))).trans e1⟩
  ·obtain⟨o',e1⟩:=I.base.there b o e hx;exact⟨o',(hs.2 b (è (ć (Û e) (I.ok.cab x c Xf hc)))).trans e1⟩
  ·by_cases hj:j=i
   ·subst hj;rw[hi] at e1;cases e1;rw[Ϟ Yu] at e2;cases e2;exact⟨u,r,.inr ⟨.inl hk,c,hc,VM⟩⟩
   ·rw[Ě (Ĝ hj)] at e2;obtain⟨u',r',q⟩:=hl j y v' e1 e2 e3;refine⟨u',r',?_⟩;rcases q with q|⟨k,c',e,z'⟩
    ·exact .inl q
    ·refine .inr ⟨k,c',e,z'.sameBut hs ?_⟩;rintro rfl;exact hj (yU hN e1 (I.ok.inj _ _ _ e hc▸hi))
  ·by_cases hcc:c'=c
   ·subst hcc;exact⟨_,VM⟩
   ·obtain⟨w2,z2⟩:=I.cell y c' e;exact⟨w2,z2.sameBut hs hcc⟩
  ·obtain⟨e,n,ne,nf,d⟩:=I.pin p hp;refine⟨(hs.2 p.1 ?_).trans e,n,ne,nf,d⟩;intro q;rw[q,hoc] at e;have q' :=ó e;exact d w' (by rw[<-q'];exact hocd)
def sL {A:Ñ}{u:F}{Q:Unit->Ã->Prop}(I:aP X pins L H s)(hN:X.N.Nodup)(hi:X.N[i]? = J x)(hx:CI X.env.scope x)(r:bE v u)(h:∀s',aP X pins (L.set i (J v)) H s'->Q () s')(hf:X.fn x=M\/X.env.scope.names.lookup x=J .local:=by first|exact .inl rfl|exact .inr rfl|assumption):Å Mq A (storeName X.env x u) Q E s:=
 vY I hN hi hx r (λs' I' _=>h s' I') hf
theorem aP.call' {s':Ã}(I:aP X pins L H s)(ho:s'.os=s.os)(u:Un (EJ X.stack) ch H H' s.heap s'.heap)(hok:pb X.prog X.w H' s'.heap)(hg:AllBare s'.gens)(K0:∀b∈ch,(b∈X.ex\/X.s₀.heap.objs.size<=b)/\b≠X.env.locals/\(∀x c,X.env.cells.lookup x=J c->c≠b)/\∀p∈X.pn++pins,p.1≠b):aP X pins L H' s':=by
 obtain⟨h',g',d',t',o'⟩:=s';have e:=ho;subst e;exact I.call u hok hg K0
end
abbrev XK:=F->Option G->Hp->Prop
noncomputable abbrev St:=List (Option V)
abbrev VK:=V->Hp->Prop
abbrev TE:=St->Hp->VK->Prop
abbrev TT:=St->Hp->(Bool->Hp->Prop)->Prop
abbrev TA:=St->Hp->(List V->Hp->Prop)->Prop
structure mN where
 nx:St->Hp->Prop
 rt:VK
 bk:St->Hp->Prop:=λ_ _=>False
 ct:St->Hp->Prop:=λ_ _=>False
abbrev TS:=mN->St->Hp->Prop
def EP (X:Cx)(pins:List (G×Obj))(L:St)(Q:VK)(u:F)(s':Ã):Prop:=∃v H',aP X pins L H' s'/\bE v u/\Q v H'
def TP (X:Cx)(pins:List (G×Obj))(L:St)(Q:Bool->Hp->Prop)(b:Bool)(s':Ã):Prop:=∃H',aP X pins L H' s'/\Q b H'
def AP (X:Cx)(pins:List (G×Obj))(L:St)(Q:List V->Hp->Prop)(us:List F)(s':Ã):Prop:=∃vs H',aP X pins L H' s'/\bf vs us/\Q vs H'
def SP (X:Cx)(pins:List (G×Obj))(D:mN)(f:Flow)(s':Ã):Prop:=
 match f with
 | .next=>∃L' H',aP X pins L' H' s'/\D.nx L' H'
 | .brk=>∃L' H',aP X pins L' H' s'/\D.bk L' H'
 | .cont=>∃L' H',aP X pins L' H' s'/\D.ct L' H'
 | .ret u=>∃v L' H',aP X pins L' H' s'/\bE v u/\D.rt v H'
def PE (X:Cx)(e:É)(t:TE):Prop:=
 ∀(pins:List (G×Obj)) (s:Ã) (L:St) (H:Hp) (Q:VK),aP X pins L H s->t L H Q->Å (Ä X.prog X.w) X.A (Ì e X.env) (EP X pins L Q) X.xe s
def PT (X:Cx)(e:É)(t:TT):Prop:=
 ∀(pins:List (G×Obj)) (s:Ã) (L:St) (H:Hp) (Q:Bool->Hp->Prop),aP X pins L H s->t L H Q->Å (Ä X.prog X.w) X.A (isTrue e X.env (Ì e X.env)) (TP X pins L Q) X.xe s
def PW (X:Cx)(e:É)(t:TT):Prop:=
 ∀(o7:Sem F) (pins:List (G×Obj)) (s:Ã) (L:St) (H:Hp) (Q:Bool->Hp->Prop),aP X pins L H s->t L H Q->Å (Ä X.prog X.w) X.A (isTrue e X.env o7) (TP X pins L Q) X.xe s
def PW.pt {X:Cx}{e:É}{t:TT}(h:PW X e t):PT X e t:=h _
def PA (X:Cx)(es:List É)(t:TA):Prop:=
 ∀(pos:Pos) (pins:List (G×Obj)) (s:Ã) (L:St) (H:Hp) (Q:List V->Hp->Prop),aP X pins L H s->t L H Q->Å (Ä X.prog X.w) X.A (spliced (ã pos (Ç es X.env))) (AP X pins L Q) X.xe s
def PS (X:Cx)(st:Ô)(t:TS):Prop:=
 ∀(pins:List (G×Obj)) (s:Ã) (L:St) (H:Hp) (D:mN),aP X pins L H s->t D L H->Å (Ä X.prog X.w) X.A (exec st X.env) (SP X pins D) X.xe s
def vy (X:Cx)(st:List Ô)(t:TS):Prop:=
 ∀(pins:List (G×Obj)) (s:Ã) (L:St) (H:Hp) (D:mN),aP X pins L H s->t D L H->Å (Ä X.prog X.w) X.A (execs st X.env) (SP X pins D) X.xe s
def cU {α:Type}{t:Sem α}{Q Q':α->Ã->Prop}{A:Ñ}(h:Å Mq A t Q E s)(hQ:∀a s,Q a s->Q' a s):Å Mq A t Q' E s:=ù h hQ λ_ _ x=>x
end L2
variable {X:L2.Cx}{L:L2.St}{tc:L2.TT}{te:L2.TE}
namespace L2
section
def mO (i:Nat):TE:=λL H Q=>∃v,L[i]? = J (J v)/\Q v H
def tC (v:V):TE:=λ_ H Q=>Q v H
theorem i5 (hN:X.N[i]? = J x)(hv:EK X.env.scope x)(hd:(x==("__debug__":Str))=Y:=by decide)(iQ:(x==("__classdict__":Str))=Y:=by decide):PE X (.Name x pos) (mO i):=by
 intro pins s L H Q I h;obtain⟨v,e,h⟩:=h;obtain⟨m,hn,hl⟩:=I.loc;obtain⟨u,r,l⟩:=hl i x v hN e hv;have fin:EP X pins L Q u s:=⟨v,H,I,r,h⟩;rcases l with⟨hk,hm⟩|⟨hk,c,hc,rg⟩
 ·exact wpAny_Name (wpAny_loadName_local I.ok.kind hk hn hm fin) hd
 ·rcases hk with hk|hk
  ·exact wpAny_Name (wpAny_loadName_cell I.ok.kind hk hc rg fin) hd
  ·exact wpAny_Name (wpAny_loadName_free I.ok.kind hk hc rg fin iQ) hd
def Bq {i j pos}:PE X (.Constant (.int i) j pos) (tC (.int i)):=λ_ _ _ H _ I h=>wpAny_Constant_int ⟨.int i,H,I.tok _,⟨_,rfl⟩,h⟩
def Ng {b j pos}:PE X (.Constant (.bool b) j pos) (tC (.bl b)):=λ_ _ _ H _ I h=>Constant_bool ⟨.bl b,H,I,rfl,h⟩
def xk {x j pos}:PE X (.Constant (.str x) j pos) (tC (.str x)):=λ_ _ _ H _ I h=>aff ⟨.str x,H,I.tok _,⟨_,rfl⟩,h⟩
def Gl (X:Cx)(x:Str):Prop:=X.env.kindOf x=J .globalImplicit
def lG {u:F}(I:aP X pins L H s)(hg:Gl X x)(hm:X.mg x=J u)(h:Q u s)(hd:(x==("__debug__":Str))=Y:=by decide):Å (Ä X.prog X.w) X.A (Ì (.Name x pos) X.env) Q E s:=
 afa I.ok.kind hg (Calls.loadGlobal_global (by rw[I.ok.glob];exact I.mod.glob.keeps I.bk) hm h) hd
theorem sM {u:F}(I:aP X pins L H s)(hg:Gl X x)(hm:X.mg x=Z)(hv:þ x=J u)(h:Q u s)(hn:x≠"__name__":=by decide)(hd:(x==("__debug__":Str))=Y:=by decide):Å (Ä X.prog X.w) X.A (Ì (.Name x pos) X.env) Q E s:=by
 obtain⟨mb,h1,h2⟩:=I.mod.blt;exact afa I.ok.kind hg (Calls.loadGlobal_builtin (by rw[I.ok.glob];exact I.mod.glob.keeps I.bk) hm (by rw[I.ok.blt];exact h1.keeps I.bk) ((h2 x hn).trans hv) h) hd
def K7 {u:F}(hg:Gl X x)(hm:X.mg x=J u)(r:bE v u)(hd:(x==("__debug__":Str))=Y:=by decide):PE X (.Name x pos) (tC v):=
 λ_ _ _ H _ I h=>lG I hg hm ⟨v,H,I,r,h⟩ hd
def CJ {u:F}(hg:Gl X x)(hm:X.mg x=Z)(hv:þ x=J u)(r:bE v u)(hn:x≠"__name__":=by decide)(hd:(x==("__debug__":Str))=Y:=by decide):PE X (.Name x pos) (tC v):=
 λ_ _ _ H _ I h=>sM I hg hm hv ⟨v,H,I,r,h⟩ hn hd
variable {a b:É}{ta tb:TE}
def tB (t:TE):TT:=λL H Q=>t L H λx H1=>∃c,x=.bl c/\Q c H1
theorem Gu {e:É}{t:TE}(h:PE X e t)(he:∀o7,isTrue e X.env o7=(do let v ←o7;standAt e.pos;ę [v] (truthy v)):=by intro _;rfl):PT X e (tB t):=by
 intro pins s L H Q I hw;refine isTrue_plain (cU (h pins s L H _ I hw) λv s1 h00=>?_) (he _);obtain⟨x,H1,I1,r1,q1⟩:=h00;obtain⟨d,rfl,q⟩:=q1;cases r1;exact ŋ ⟨H1,I1,q⟩
variable {tA tB':TT}{rest:List É}
def Pe (t u:TT):TT:=λL H Q=>t L H λc H1=>if c=M then u L H1 Q else Q Y H1
def V1 (t u:TT):TT:=λL H Q=>t L H λc H1=>if c=M then Q M H1 else u L H1 Q
def SS (t:TT):TT:=λL H Q=>t L H λc H1=>Q (!c) H1
theorem CK (ha:PT X a tA):PW X (.BoolOp .And [a] pos) tA:=by
 intro wh pins s L H Q I h;refine isTrue_and (cU (ha pins s L H Q I h) λc s1 e=>?_);cases c with
 |true=>exact isTrue_and_nil e
 |false=>exact e
theorem Gv (ha:PT X a tA):PW X (.BoolOp .Or [a] pos) tA:=by
 intro wh pins s L H Q I h;refine isTrue_or (cU (ha pins s L H Q I h) λc s1 e=>?_);cases c with
 |false=>exact isTrue_or_nil e
 |true=>exact e
theorem Gw (ha:PT X a tA)(hb:PW X (.BoolOp .And (b::rest) pos) tB'):PW X (.BoolOp .And (a::b::rest) pos) (Pe tA tB'):=by
 intro wh pins s L H Q I h;refine isTrue_and (cU (ha pins s L H _ I h) λc s1 ⟨H1,I1,q1⟩=>?_);cases c with
 |true=>exact hb wh pins s1 L H1 Q I1 q1
 |false=>exact⟨H1,I1,q1⟩
theorem Nh (ha:PT X a tA)(hb:PW X (.BoolOp .Or (b::rest) pos) tB'):PW X (.BoolOp .Or (a::b::rest) pos) (V1 tA tB'):=by
 intro wh pins s L H Q I h;refine isTrue_or (cU (ha pins s L H _ I h) λc s1 ⟨H1,I1,q1⟩=>?_);cases c with
 |true=>exact⟨H1,I1,q1⟩
 |false=>exact hb wh pins s1 L H1 Q I1 q1
def Gx (ha:PT X a tA):PT X (.UnaryOp .Not a pos) (SS tA):=by
 intro pins s L H Q I h;exact isTrue_not (ha pins s L H _ I h)
def SU (ta tb:TE):TE:=λL H Q=>ta L H λx H1=>∃c,x=.bl c/\if c=M then tb L H1 Q else Q (.bl Y) H1
def V2 (ta tb:TE):TE:=λL H Q=>ta L H λx H1=>∃c,x=.bl c/\if c=M then Q (.bl M) H1 else tb L H1 Q
def SV (ta:TE):TE:=λL H Q=>ta L H λx H1=>∃c,x=.bl c/\Q (.bl (!c)) H1
def Pf {op}{t:TE}(h:PE X a t):PE X (.BoolOp op [a] pos) t:=λpins s L H Q I hw=>BoolOp_one (h pins s L H Q I hw)
theorem Pg (ha:PE X a ta)(hb:PE X (.BoolOp .And (b::rest) pos) tb):PE X (.BoolOp .And (a::b::rest) pos) (SU ta tb):=by
 intro pins s L H Q I h;refine BoolOp_and (cU (ha pins s L H _ I h) λv s1 h00=>?_);obtain⟨x,H1,I1,r1,q1⟩:=h00;obtain⟨c,rfl,q1⟩:=q1;cases r1;refine ŋ ?_;cases c with
 |true=>exact hb pins s1 L H1 Q I1 q1
 |false=>exact⟨.bl Y,H1,I1,rfl,q1⟩
theorem SW (ha:PE X a ta)(hb:PE X (.BoolOp .Or (b::rest) pos) tb):PE X (.BoolOp .Or (a::b::rest) pos) (V2 ta tb):=by
 intro pins s L H Q I h;refine BoolOp_or (cU (ha pins s L H _ I h) λv s1 h00=>?_);obtain⟨x,H1,I1,r1,q1⟩:=h00;obtain⟨c,rfl,q1⟩:=q1;cases r1;refine ŋ ?_;cases c with
 |false=>exact hb pins s1 L H1 Q I1 q1
 |true=>exact⟨.bl M,H1,I1,rfl,q1⟩
theorem Ph (ha:PE X a ta):PE X (.UnaryOp .Not a pos) (SV ta):=by
 intro pins s L H Q I h;refine UnaryOp_ (cU (ha pins s L H _ I h) λv s1 h00=>?_);obtain⟨x,H1,I1,r1,q1⟩:=h00;obtain⟨c,rfl,q1⟩:=q1;cases r1;exact not_of (ŋ ⟨.bl (!c),H1,I1,rfl,q1⟩)
def X2 (t:TT)(ta tb:TE):TE:=λL H Q=>t L H λc H1=>if c=M then ta L H1 Q else tb L H1 Q
theorem yV (hc:PT X c tA)(ha:PE X a ta)(hb:PE X b tb):PE X (.IfExp c a b pos) (X2 tA ta tb):=by
 intro pins s L H Q I h;refine wpAny_IfExp (cU (hc pins s L H _ I h) λd s1 ⟨H1,I1,q1⟩=>?_);cases d with
 |true=>exact ha pins s1 L H1 Q I1 q1
 |false=>exact hb pins s1 L H1 Q I1 q1
end
end L2
namespace L2
def eI (K:Ê)(H:Hp)(a:G)(xs:List V):Prop:=
 Rd H a (.lst xs) \/
  ∃(o:Obj) (its:Array F) (n:Nat),K.lookup a=J o/\o.cls=.type "list"/\o.dict=Z/\o.data=.seq its n/\its.size<=Â/\bf xs its.toList
def fE (K:Ê)(H:Hp)(a:G)(xs:List V):Prop:=
 Rd H a (.tup xs) \/
  ∃(o:Obj) (its:Array F) (n:Nat),K.lookup a=J o/\o.cls=.type "tuple"/\o.data=.seq its n/\its.size<=Â/\bf xs its.toList
noncomputable def V3:F->Option V
 | .none=>J .non
 | .bool b=>J (.bl b)
 | .int i _=>J (.int i)
 | .str x _=>J (.str x)
 | .bytes b _=>J (.byt b)
 | .float b _=>J (.flt b)
 | .ref a=>J (.ref a)
 | .type n=>J (.ty n)
 |_=>Z
theorem bE.abs {x:V}{u:F}(r:bE x u):V3 u=J x:=by
 cases x with
 |non=>cases r;rfl
 |bl _=>cases r;rfl
 |int _=>obtain⟨t,rfl⟩:=r;rfl
 |str _=>obtain⟨t,rfl⟩:=r;rfl
 |byt _=>obtain⟨t,rfl⟩:=r;rfl
 |flt _=>obtain⟨t,rfl⟩:=r;rfl
 |ref _=>cases r;rfl
 |ty _=>cases r;rfl
def bE.inj {x y:V}{u:F}(r:bE x u)(q:bE y u):x=y:=ó (r.abs.symm.trans q.abs)
theorem bf.inj:∀{xs ys:List V} {us:List F},bf xs us->bf ys us->xs=ys
 |_,_,_,.nil,.nil=>rfl
 |_,_,_,.cons r t,.cons r' t'=>by rw[r.inj r',bf.inj t t']
section
variable {ys:List V}
def eI.of (h:H a=J (.lst xs)):eI K H a xs:=.inl (.inl h)
def fE.of (h:H a=J (.tup xs)):fE K H a xs:=.inl (.inl h)
theorem aP.list (I:aP X pins L H s)(h:eI X.K H a xs):∃its:List F,bf xs its/\PlainL s.heap a its.toArray/\xs.length<=Â:=by
 rcases h with h|⟨o,its,n,hk,hc,hd,hs,hz,r⟩
 ·obtain⟨z,its,n,r,e⟩:=h.ok I.hok;exact⟨its,r,⟨_,n,e,rfl,rfl,rfl⟩,z⟩
 ·refine⟨its.toList,r,⟨o,n,I.kIn a o hk,hc,hd,by simpa using hs⟩,?_⟩;have e:=r.length;simp only[í] at e;lia
theorem aP.tuple (I:aP X pins L H s)(h:fE X.K H a xs):∃its:List F,bf xs its/\IsTup s.heap a its.toArray/\xs.length<=Â:=by
 rcases h with h|⟨o,its,n,hk,hc,hs,hz,r⟩
 ·obtain⟨z,its,r,p,_⟩:=h.ok I.hok;exact⟨its,r,p,z⟩
 ·refine⟨its.toList,r,⟨o,I.kIn a o hk,hc,n,by simpa using hs⟩,?_⟩;have e:=r.length;simp only[í] at e;lia
theorem aP.list_inj (I:aP X pins L H s)(h:eI X.K H a xs)(h':eI X.K H a ys):xs=ys:=by
 obtain⟨its,r,⟨o,n,e,_,_,d⟩,_⟩:=I.list h;obtain⟨rM,r',⟨o',n',e',_,_,d'⟩,_⟩:=I.list h';rw[e] at e';cases e';rw[d] at d';injection d' with d1 _
 have:=by simpa using congrArg Array.toList d1
 subst this;exact r.inj r'
theorem aP.tuple_inj (I:aP X pins L H s)(h:fE X.K H a xs)(h':fE X.K H a ys):xs=ys:=by
 obtain⟨its,r,⟨o,e,_,n,d⟩,_⟩:=I.tuple h;obtain⟨rM,r',⟨o',e',_,n',d'⟩,_⟩:=I.tuple h';rw[e] at e';cases e';rw[d] at d';injection d' with d1 _
 have:=by simpa using congrArg Array.toList d1
 subst this;exact r.inj r'
end
noncomputable abbrev Cx.wish (X:Cx)(E:F->Ã->Prop):Cx:={X with xe:=E}
noncomputable abbrev Cx.nox (X:Cx):Cx:=X.wish λ_ _=>False
def Cx.Ok.wish (ok:X.Ok)(E:F->Ã->Prop):(X.wish E).Ok:=
 ⟨ok.mod,ok.kind,ok.glob,ok.blt,ok.above,ok.inj,ok.has,ok.cab,ok.hd,ok.frames,ok.stk,ok.exf,ok.bs,ok.bsz,ok.noex,ok.exfs,ok.funs,ok.frf⟩
def Cx.Ok.unwish (ok:(X.wish E).Ok):X.Ok:=
 ⟨ok.mod,ok.kind,ok.glob,ok.blt,ok.above,ok.inj,ok.has,ok.cab,ok.hd,ok.frames,ok.stk,ok.exf,ok.bs,ok.bsz,ok.noex,ok.exfs,ok.funs,ok.frf⟩
def aP.wish (I:aP X pins L H s)(E:F->Ã->Prop):aP (X.wish E) pins L H s:=⟨I.ok.wish E,I.os,I.bare,I.base,I.loc,I.cell,I.free,I.freeC,I.pin,I.hok,I.len⟩
def aP.unwish (I:aP (X.wish E) pins L H s):aP X pins L H s:=⟨I.ok.unwish,I.os,I.bare,I.base,I.loc,I.cell,I.free,I.freeC,I.pin,I.hok,I.len⟩
theorem SP.unwish {D:mN}{f:Flow}{s':Ã}(h:SP (X.wish E) pins D f s'):SP X pins D f s':=by
 cases f with
 |next=>obtain⟨L',H',I,q⟩:=h;exact⟨L',H',I.unwish,q⟩
 |brk=>obtain⟨L',H',I,q⟩:=h;exact⟨L',H',I.unwish,q⟩
 |cont=>obtain⟨L',H',I,q⟩:=h;exact⟨L',H',I.unwish,q⟩
 |ret u=>obtain⟨v,L',H',I,r,q⟩:=h;exact⟨v,L',H',I.unwish,r,q⟩
def vy.nox {st:List Ô}{t:TS}(h:vy X.nox st t):vy X st t:=λpins s L H D I hw=>
 ù (h pins s L H D (I.wish _) hw) (λ_ _ q=>q.unwish) λ_ _ z=>Ė z
section
variable {rest:List Ô}{t u:TS}{e:É}
def vZ:TS:=λD L H=>D.nx L H
def pf (t u:TS):TS:=λD L H=>t {D with nx:=u D} L H
def CL:vy X [] vZ:=λ_ _ L H _ I h=>ϖ ⟨L,H,I,h⟩
theorem yW (h1:PS X st t)(h2:vy X rest u):vy X (st::rest) (pf t u):=by
 intro pins s L H D I h;refine wpAny_execs_cons (cU (h1 pins s L H _ I h) λf s1 q=>?_);cases f with
 |next=>
  obtain⟨L',H',I',q⟩:=q;exact h2 pins s1 L' H' D I' q
 |ret v=>exact q
 |brk=>exact q
 |cont=>exact q
theorem K8 (h1:PS X st t):vy X [st] t:=by
 intro pins s L H D I h;refine wpAny_execs_cons (cU (h1 pins s L H D I h) λf s1 q=>?_);cases f with
 |next=>exact ϖ q
 |ret v=>exact q
 |brk=>exact q
 |cont=>exact q
def aP.quiet (I:aP X pins L H s):interactive X.env=Y:=by simp[interactive,I.ok.kind]
def v7 (te:TE):TS:=λD L H=>te L H λ_ H1=>D.nx L H1
def CM (he:PE X e te)(hs:Ĭ e Z pos.line X.env=pure Y:=by rfl):PS X (.Expr e pos) (v7 te):=by
 intro pins s L H D I h;exact wpAny_Expr_any (cU (he pins s L H _ I h) λv s1 ⟨x,H1,I1,r1,q1⟩=>⟨L,H1,I1,q1⟩) I.quiet hs
def K9 (te:TE):TS:=λD L H=>te L H D.rt
def xl (he:PE X e te):PS X (.Return (J e) pos) (K9 te):=by
 intro pins s L H D I h;exact wpAny_Return_some (cU (he pins s L H _ I h) λv s1 ⟨x,H1,I1,r1,q1⟩=>⟨x,L,H1,I1,r1,q1⟩)
def SX (c:TT)(t u:TS):TS:=λD L H=>c L H λb H1=>if b=M then t D L H1 else u D L H1
theorem Ni {a b:List Ô}(hc:PT X c tc)(ha:vy X a t)(hb:vy X b u):PS X (.If c a b pos) (SX tc t u):=by
 intro pins s L H D I h;refine wpAny_If (cU (hc pins s L H _ I h) λd s1 ⟨H1,I1,q1⟩=>?_);cases d with
 |true=>exact ha pins s1 L H1 D I1 q1
 |false=>exact hb pins s1 L H1 D I1 q1
end
abbrev TG:=V->St->Hp->(St->Hp->Prop)->Prop
abbrev K_:=List V->St->Hp->(St->Hp->Prop)->Prop
def PG (X:Cx)(vi:É)(t:TG):Prop:=
 ∀(pins:List (G×Obj)) (s:Ã) (L:St) (H:Hp) (v:V) (u:F) (Q:St->Hp->Prop),aP X pins L H s->bE v u->t v L H Q->
  Å (Ä X.prog X.w) X.A (assign vi X.env u) (λ_ s'=>∃L' H',aP X pins L' H' s'/\Q L' H') X.xe s
def Nj (X:Cx)(ts:List É)(t:K_):Prop:=
 ∀(pins:List (G×Obj)) (s:Ã) (L:St) (H:Hp) (vs:List V) (us:List F) (Q:St->Hp->Prop),aP X pins L H s->bf vs us->t vs L H Q->
  Å (Ä X.prog X.w) X.A (assignInOrder ((ķ ts X.env).map (·.2)) us) (λ_ s'=>∃L' H',aP X pins L' H' s'/\Q L' H') X.xe s
abbrev Pj:=V->V->V->Hp->(Hp->Prop)->Prop
def SY (X:Cx)(t:Pj):Prop:=
 ∀(pins:List (G×Obj)) (s:Ã) (L:St) (H:Hp) (o i v:V) (ov iv u:F) (Q:Hp->Prop),aP X pins L H s->bE o ov->bE i iv->bE v u->t o i v H Q->
  Å (Ä X.prog X.w) X.A (setItem ov iv u) (λ_ s'=>∃H',aP X pins L H' s'/\Q H') X.xe s
abbrev Vp:=V->V->Hp->VK->Prop
def V4 (X:Cx)(op:Operator)(t:Vp):Prop:=
 ∀(pins:List (G×Obj)) (s:Ã) (L:St) (H:Hp) (x y:V) (v u:F) (Q:VK),aP X pins L H s->bE x v->bE y u->t x y H Q->
  Å (Ä X.prog X.w) X.A (inplaceOp op v u) (EP X pins L Q) X.xe s
def qf (i:Nat):TG:=λv L H Q=>Q (L.set i (J v)) H
def La (hN:X.N.Nodup)(hi:X.N[i]? = J x)(hx:CI X.env.scope x)(hf:X.fn x=M\/X.env.scope.names.lookup x=J .local:=by first|exact .inl rfl|exact .inr rfl|assumption):PG X (.Name x pos) (qf i):=by
 intro pins s L H v u Q I r h;exact wpAny_assign_Name (sL I hN hi hx r (λs' I'=>⟨_,H,I',h⟩) hf)
def V5:K_:=λvs L H Q=>vs=[]/\Q L H
def S0 (t:TG)(u:K_):K_:=λvs L H Q=>∃v r,vs=v::r/\t v L H λL' H'=>u r L' H' Q
theorem Lb:Nj X [] V5:=by
 intro pins s L H vs us Q I r h;obtain⟨e,h⟩:=h;exact assignInOrder_nil ⟨L,H,I,h⟩
theorem Gy {e:É}{t:TG}{u:K_}(h1:PG X e t)(h2:Nj X es u)(hs:(ķ (e::es) X.env).map (·.2)=assign e X.env::(ķ es X.env).map (·.2):=by rfl):Nj X (e::es) (S0 t u):=by
 intro pins s L H vs us Q I r h;obtain⟨v,vr,e1,h⟩:=h;subst e1;cases r with
 |cons r rr=>
  rw[hs];refine assignInOrder_cons (cU (h1 pins s L H _ _ _ I r h) λ_ s1 h00=>?_);obtain⟨L1,H1,I1,q1⟩:=h00;exact h2 pins s1 L1 H1 _ _ Q I1 rr q1
def V6 (K:Ê)(n:Nat)(t:K_):TG:=λv L H Q=>∃a xs,v=.ref a/\fE K H a xs/\xs.length=n/\t xs L H Q
theorem Pl {t:K_}{n:Nat}(hc:X.calm=M)(h:Nj X es t)(hn:(ķ es X.env).length=n:=by rfl)(gE:(ķ es X.env).findIdx? (·.1)=Z:=by rfl):PG X (.Tuple es k pos) (V6 X.K n t):=by
 intro pins s L H v u Q I r hw;obtain⟨a,xs,e1,hq,hl,hw⟩:=hw;subst e1;cases r;obtain⟨its,rv,ht,hz⟩:=I.tuple hq;refine assign_Tuple_tuple (I.ok.hd hc) ht (by simp[hn,<-hl,rv.length]) gE λh' hx=>?_;have I1:=I.kept (t':=s.toks) λb o e=>hx b o (è (Û e)) e;exact h pins _ L H xs _ Q I1 (by simpa using rv) hw
def V7 (to ti:TE)(t:Pj):TG:=λv L H Q=>to L H λo H1=>ti L H1 λi H2=>t o i v H2 λH3=>Q L H3
def Pm {o i:É}{to ti:TE}{t:Pj}(ho:PE X o to)(hi:PE X i ti)(hs:SY X t)
  (ha:∀v,assign (.Subscript o i pos) X.env v=(do
   let ov ←ę [v] (Ì o X.env)
   let iv ←ę [v,ov] (Ì i X.env)
   standAt pos
   ę [v,ov,iv] (setItem ov iv v)
   release [v,ov,iv] []):=by intro _;rfl):PG X (.Subscript o i pos) (V7 to ti t):=by
 intro pins s L H v u Q I r h;refine À (Ģ (cU (ho pins s L H _ I h) λov s1 h00=>?_));obtain⟨x,H1,I1,r1,q1⟩:=h00;refine À (Ģ (cU (hi pins s1 L H1 _ I1 q1) λiv s2 h00=>?_));obtain⟨y,H2,I2,r2,q2⟩:=h00;refine À (wpAny_standAt (À (Ģ (cU (hs pins s2 L H2 x y v ov iv u _ I2 r1 r2 r q2) λ_ s3 ⟨H3,I3,q3⟩=>?_))));exact wpAny_release ⟨L,H3,I3,q3⟩
def yX (te:TE)(g:TG):TS:=λD L H=>te L H λx H1=>g x L H1 D.nx
def Pn {e:É}{g:TG}(he:PE X e te)(hg:PG X tg g)(hs:swapsWithSole [tg] e pos.line X.env=pure Y:=by rfl)(hw:swappedStores [tg] e X.env=pure Z:=by rfl)(h1:(ķ [tg] X.env).map (·.2)=[assign tg X.env]:=by rfl):PS X (.Assign [tg] e pos) (yX te g):=by
 intro pins s L H D I h;refine wpAny_Assign_stores (cU (he pins s L H _ I h) λv s1 h00=>?_) hs hw;obtain⟨x,H1,I1,r1,q1⟩:=h00;rw[h1];exact cU (hg pins s1 L H1 x v _ I1 r1 q1) λ_ s2 q=>q
def xm {e:É}(hN:X.N.Nodup)(hi:X.N[i]? = J x)(hx:CI X.env.scope x)(he:PE X e te)(hs:Ĭ e (J (.Name x pos')) pos.line X.env=pure Y:=by rfl)(hf:X.fn x=M\/X.env.scope.names.lookup x=J .local:=by first|exact .inl rfl|exact .inr rfl|assumption) :
  PS X (.Assign [.Name x pos'] e pos) (yX te (qf i)):=by
 intro pins s L H D I h;refine wpAny_Assign_Name (cU (he pins s L H _ I h) λv s1 h00=>?_) hs;obtain⟨y,H1,I1,r1,q1⟩:=h00;exact sL I1 hN hi hx r1 (λs2 I2=>⟨_,H1,I2,q1⟩) hf
def V8 (i:Nat)(te:TE)(ti:Vp):TS:=λD L H=>∃x,L[i]? = J (J x)/\te L H λy H1=>ti x y H1 λz H2=>D.nx (L.set i (J z)) H2
theorem Po {e:É}{op:Operator}{ti:Vp}(hN:X.N.Nodup)(hi:X.N[i]? = J x)(hx:CI X.env.scope x)(he:PE X e te)(ho:V4 X op ti)(hf:X.fn x=M\/X.env.scope.names.lookup x=J .local:=by first|exact .inl rfl|exact .inr rfl|assumption) :
  PS X (.AugAssign (.Name x pos') op e pos) (V8 i te ti):=by
 intro pins s L H D I h;obtain⟨v,e1,h⟩:=h;obtain⟨m,hn,hl⟩:=I.loc;have Zc:EK X.env.scope x:=by rcases hx with k|k;exact .inl k;exact .inr (.inl k)
 obtain⟨u,r,l⟩:=hl i x v hi e1 Zc;refine wpAny_AugAssign_Name ?_;have go:Å (Ä X.prog X.w) X.A (Ì e X.env) (λw s₂=>Å (Ä X.prog X.w) X.A (inplaceOp op u w) (λr s₃=>Å (Ä X.prog X.w) X.A (storeName X.env x r) (λ_=>SP X pins D .next) X.xe s₃) X.xe s₂) X.xe s:=by
  refine cU (he pins s L H _ I h) λw s1 h00=>?_;obtain⟨y,H1,I1,r1,q1⟩:=h00;refine cU (ho pins s1 L H1 v y u w _ I1 r r1 q1) λz s2 h00=>?_;obtain⟨zv,H2,I2,r2,q2⟩:=h00;exact sL I2 hN hi hx r2 (λs3 I3=>⟨_,H2,I3,q2⟩) hf
 rcases l with⟨hk,hm⟩|⟨hk,c,hc,rg⟩
 ·exact wpAny_loadName_local I.ok.kind hk hn hm go
 ·rcases hk with hk|hk
  ·exact wpAny_loadName_cell I.ok.kind hk hc rg go
  ·rcases hx with k|k
   ·have:X.env.scope.names.lookup x=J _:=hk;rw[k] at this;cases this
   ·have:X.env.scope.names.lookup x=J _:=hk;rw[k] at this;cases this
def X3 (f:Int->Int->Int):Vp:=λx y H Q=>∃i j,x=.int i/\y=.int j/\Q (.int (f i j)) H
theorem Gz:V4 X .Add (X3 λi j=>i+j):=by
 intro pins s L H x y v u Q I r1 r2 h;obtain⟨i,j,e1,e2,q⟩:=h;subst e1;subst e2;obtain⟨t,rfl⟩:=r1;obtain⟨t',rfl⟩:=r2;exact iadd_int ⟨.int _,H,I.tok _,⟨_,rfl⟩,q⟩
def xn (c:TT)(tb:TS):TS:=λD L H=>∃W:Nat->St->Hp->Prop,(∃m,W m L H)/\∀m L H,W m L H->
 c L H λb H1=>if b=M then ∃N:St->Hp->Prop,(∀L' H',N L' H'->∃m',m'<m/\W m' L' H')/\tb {D with nx:=N,ct:=N,bk:=D.nx} L H1 else D.nx L H1
theorem yY {tb:TS}(hp:Μ (Ä X.prog X.w) X.A X.env X.xe)(hc:PT X c tc)(hb:vy X body tb):PS X (.While c body [] pos) (xn tc tb):=by
 intro pins s L H D I h;obtain⟨W,⟨m0,w0⟩,turn⟩:=h;refine wpAny_While (codeAny_whileLoop (λn s'=>∃L' H',aP X pins L' H' s'/\W n L' H') ?_ m0 ⟨L,H,I,w0⟩);rintro n s1 ⟨L1,H1,I1,w1⟩;refine ů hp (cU (hc pins s1 L1 H1 _ I1 (turn n L1 H1 w1)) λb s2 ⟨H2,I2,q2⟩=>?_);cases b with
 |true=>
  obtain⟨N,hN,q2⟩:=q2;refine ů hp (cU (hb pins s2 L1 H2 _ I2 q2) λf s3 q3=>?_);cases f with
  |next=>
   obtain⟨L3,H3,I3,n3⟩:=q3;obtain⟨m',hm,w3⟩:=hN L3 H3 n3;exact⟨m',hm,L3,H3,I3,w3⟩
  |cont=>
   obtain⟨L3,H3,I3,n3⟩:=q3;obtain⟨m',hm,w3⟩:=hN L3 H3 n3;exact⟨m',hm,L3,H3,I3,w3⟩
  |brk=>exact q3
  |ret v=>exact q3
 |false=>
  exact ϖ ⟨L1,H2,I2,q2⟩
structure It where
 go:Nat->Hp->Prop
 yld:Nat->Hp->V->Hp->Prop
 stop:Nat->Hp->Prop
def rj (X:Cx)(pins:List (G×Obj))(H:Hp)(b:G):Prop:=
 H b=Z/\b≠X.env.locals/\b∉X.fs/\(b∈X.ex\/X.s₀.heap.objs.size<=b)/\(∀x c,X.env.cells.lookup x=J c->c≠b)/\∀p∈X.pn++pins,p.1≠b
theorem aP.fpOk (I:aP X pins L H s)(hb:s.heap.objs.size<=b)(hn:H' b=Z):rj X pins H' b:=by
 refine⟨hn,Ŕ (ć I.lt hb),I.nofs hb,.inr (ä I.sz hb),λx c e z=>?_,λp hp z=>?_⟩
 ·obtain⟨v,q⟩:=I.cell x c e;exact absurd (ć q.lt (by rw[z];exact hb)) (ı _)
 ·exact absurd (ć (Û (I.pin p hp).1) (by rw[z];exact hb)) (ı _)
structure Br (P:ø)(w:ß)(K:Ê)(tg:É)(Jq:It)(fp:List G)(it:G)(tn:Nat->Í->Prop):Prop where
 mem:it∈fp
 obj:∀i h,tn i h->∀b∈fp,∃o,h.get? b=J o/\∀v,o.data≠.cell v
 keep:∀i h h',tn i h->(∀b∈fp,∀o,h.get? b=J o->h'.get? b=J o)->tn i h'
 item:∀(X:Cx),X.prog=P->X.w=w->X.K=K->X.calm=M->∀(i:Nat) (pins:List (G×Obj)) (s:Ã) (L:St) (H:Hp) (E:F->Ã->Prop),aP X pins L H s->(∀b∈fp,rj X pins H b)->tn i s.heap->Jq.go i H->
  Å (Ä P w) X.A (pyNext (.ref it)) (λr s1=>∃u,r=J u/\
   Å (Ä P w) X.A (letOwnedTupleGo tg (.ref it) u) (λ_ s2=>∃x H',aP X pins L H' s2/\bE x u/\Jq.yld i H x H'/\tn (i+1) s2.heap/\∀b∈fp,H' b=Z) E s1) E s
 done:∀(X:Cx),X.prog=P->X.w=w->X.K=K->X.calm=M->∀(i:Nat) (pins:List (G×Obj)) (s:Ã) (L:St) (H:Hp) (E:F->Ã->Prop),aP X pins L H s->(∀b∈fp,rj X pins H b)->tn i s.heap->Jq.stop i H->
  Å (Ä P w) X.A (pyNext (.ref it)) (λr s1=>r=Z/\aP X pins L H s1) E s
 self:∀(A:Ñ) (i:Nat) (s:Ã) (Q:F->Ã->Prop) (E:F->Ã->Prop),tn i s.heap->Q (.ref it) s->Å (Ä P w) A (pyIter (.ref it)) Q E s
abbrev TI:=St->Hp->(It->Hp->Prop)->Prop
def X4 (X:Cx)(pins:List (G×Obj))(L:St)(tg:É)(R:It->Hp->Prop)(VN:F)(s2:Ã):Prop:=
 ∃(it:G) (fp:List G) (tn:Nat->Í->Prop) (Jq:It) (H':Hp),VN=.ref it/\aP X pins L H' s2/\Br X.prog X.w X.K tg Jq fp it tn/\tn 0 s2.heap/\(∀b∈fp,rj X pins H' b)/\R Jq H'
def PI (X:Cx)(tg iter:É)(wi:TI):Prop:=
 ∀(pins:List (G×Obj)) (s:Ã) (L:St) (H:Hp) (R:It->Hp->Prop),aP X pins L H s->wi L H R->
  Å (Ä X.prog X.w) X.A (Ì iter X.env) (λv s1=>Å (Ä X.prog X.w) X.A (pyIter v) (X4 X pins L tg R) X.xe s1) X.xe s
theorem CN {A:Ñ}{u:F}{o:Obj}{n:String}{vs:Array F}{Q:Unit->Ã->Prop}(ho:s.heap.get? it=J o)(hc:o.cls=.type n)(hd:o.data=.fields vs)(hn:["enumerate","zip","dict_itemiterator","dict_reverseitemiterator","odict_iterator","itertools.zip_longest","itertools.pairwise"].contains n=Y)(hQ:Q () s):Å Mq A (letOwnedTupleGo tg (.ref it) u) Q E s:=by
  cases tg<;>first
    |exact Ë hQ
    | (cases u<;>first
        |exact Ë hQ
        | (refine À (wpAny_load ho ?_)
           rw[hc,hd];show Å Mq A (if (["enumerate","zip","dict_itemiterator","dict_reverseitemiterator","odict_iterator","itertools.zip_longest","itertools.pairwise"].contains n&&vs[0]? == J _)=M then _ else _) Q E s;rw[hU (by intro h;rw[hn] at h;cases h)];exact Ë hQ))
noncomputable def Vq (K:Ê)(a:G):It:=
 ⟨λi H=>∃xs x,eI K H a xs/\xs[i]? = J x,λi H x H'=>H'=H/\∀xs,eI K H a xs->xs[i]? = J x,λi H=>∃xs,eI K H a xs/\xs.length<=i⟩
noncomputable def V9 (K:Ê)(a:G):It:=
 ⟨λi H=>∃xs x,fE K H a xs/\xs[i]? = J x,λi H x H'=>H'=H/\∀xs,fE K H a xs->xs[i]? = J x,λi H=>∃xs,fE K H a xs/\xs.length<=i⟩
noncomputable def Vr (lo:Int)(n:Nat):It:=⟨λi _=>i<n,λi H x H'=>H'=H/\x=.int (lo+i),λi _=>n<=i⟩
theorem EL (a it:G):Br P w K tg (Vq K a) [it] it (λi h=>h.IsListIter it a i) where
 mem:=by simp
 obj:=λi h st b hb=>by
  have e:=by simpa using hb
  subst e;obtain⟨o,e,c,d⟩:=st;exact⟨o,e,λv z=>by rw[d] at z;cases z⟩
 keep:=λi h h' st k=>st.at λo e=>k it (by simp) o e
 item:=by
  intro X hP hw hK hc i pins s L H E I hf st hg;subst hP hw hK;obtain⟨xs,x,hq,hx⟩:=hg;obtain⟨its,rv,p,hz⟩:=I.list hq;obtain⟨u,hu,ru⟩:=rv.get hx;obtain⟨f0,f1,f2,f3,f4,f5⟩:=hf it (by simp);refine wpAny_pyNext_list_item st p.isList (by simpa using hu) λh' aV sb=>?_;have I1:=I.turned (t':=s.toks) (λb o hb e=>(sb.2 b hb).trans e) f0 f1 f3 f4 f5;obtain⟨o,e,c,d⟩:=id aV;exact⟨u,rfl,CN e c d (by decide) ⟨x,H,I1,ru,⟨rfl,λys hy=>by rw[I.list_inj hy hq];exact hx⟩,aV,λb hb=>(hf b hb).1⟩⟩
 done:=by
  intro X hP hw hK hc i pins s L H E I hf st hg;subst hP hw hK;obtain⟨xs,hq,hx⟩:=hg;obtain⟨its,rv,p,hz⟩:=I.list hq;obtain⟨f0,f1,f2,f3,f4,f5⟩:=hf it (by simp);have hl:=rv.length;exact wpAny_pyNext_list_end (I.ok.hd hc) st p.isList (by simp;lia) λh' eb=>⟨rfl,I.turned (λb o hb e=>eb b o hb e) f0 f1 f3 f4 f5⟩
 self:=λ_ _ _ _ _ st h=>wpAny_pyIter_listiter st h
theorem Bs (a it:G):Br P w K tg (V9 K a) [it] it (λi h=>h.IsTupleIter it a i) where
 mem:=by simp
 obj:=λi h st b hb=>by
  have e:=by simpa using hb
  subst e;obtain⟨o,e,c,d⟩:=st;exact⟨o,e,λv z=>by rw[d] at z;cases z⟩
 keep:=λi h h' st k=>st.at λo e=>k it (by simp) o e
 item:=by
  intro X hP hw hK hc i pins s L H E I hf st hg;subst hP hw hK;obtain⟨xs,x,hq,hx⟩:=hg;obtain⟨its,rv,p,hz⟩:=I.tuple hq;obtain⟨u,hu,ru⟩:=rv.get hx;obtain⟨f0,f1,f2,f3,f4,f5⟩:=hf it (by simp);refine wpAny_pyNext_tuple_item st (p) (by simpa using hu) λh' aV sb=>?_;have I1:=I.turned (t':=s.toks) (λb o hb e=>(sb.2 b hb).trans e) f0 f1 f3 f4 f5;obtain⟨o,e,c,d⟩:=id aV;exact⟨u,rfl,CN e c d (by decide) ⟨x,H,I1,ru,⟨rfl,λys hy=>by rw[I.tuple_inj hy hq];exact hx⟩,aV,λb hb=>(hf b hb).1⟩⟩
 done:=by
  intro X hP hw hK hc i pins s L H E I hf st hg;subst hP hw hK;obtain⟨xs,hq,hx⟩:=hg;obtain⟨its,rv,p,hz⟩:=I.tuple hq;obtain⟨f0,f1,f2,f3,f4,f5⟩:=hf it (by simp);have hl:=rv.length;exact wpAny_pyNext_tuple_end (I.ok.hd hc) st (p) (by simp;lia) λh' eb=>⟨rfl,I.turned (λb o hb e=>eb b o hb e) f0 f1 f3 f4 f5⟩
 self:=λ_ _ _ _ _ st h=>wpAny_pyIter_tupleiter st h
theorem Bu (it:G)(lo:Int)(n:Nat):Br P w K tg (Vr lo n) [it] it (λi h=>IsRangeIter h it (lo+(i:Nat)*1) ((n:Int)-(i:Nat)) 1) where
 mem:=by simp
 obj:=λi h st b hb=>by
  have e:=by simpa using hb
  subst e;exact⟨_,st,λv z=>by
   have z' :=z;cases z'⟩
 keep:=λi h h' st k=>k it (by simp) _ st
 item:=by
  intro X hP hw hK hc i pins s L H E I hf st hg;subst hP hw hK;obtain⟨f0,f1,f2,f3,f4,f5⟩:=hf it (by simp);have W:=Walks.range (prog:=X.prog) (w:=X.w) (I.ok.hd hc) it lo 1 n;refine W.item i s _ _ hg st λv h' tk hv aV kk=>?_;obtain⟨t,rfl⟩:=hv;have I1:aP X pins L H {s with heap:=h',toks:=tk}:=I.turned (λb o hb e=>kk b o (by simpa using hb) e) f0 f1 f3 f4 f5;refine⟨_,rfl,CN aV rfl rfl (by decide) ⟨.int _,H,I1,⟨t,?_⟩,⟨rfl,rfl⟩,aV,λb hb=>(hf b hb).1⟩⟩;rw[Int.mul_one]
 done:=by
  intro X hP hw hK hc i pins s L H E I hf st hg;obtain⟨f0,f1,f2,f3,f4,f5⟩:=hf it (by simp);exact wpAny_pyNext_range_end (I.ok.hd hc) st (by have:n<=i:=hg;lia) λh' eb=>⟨rfl,I.turned (λb o hb e=>eb b o hb e) f0 f1 f3 f4 f5⟩
 self:=λ_ _ _ _ _ st h=>wpAny_pyIter_rangeiter st h
end L2
variable {wi:L2.TI}
namespace L2
def S1 (K:Ê)(tl:TE):TI:=λL H R=>tl L H λx H1=>∃a,x=.ref a/\(∃xs,eI K H1 a xs)/\R (Vq K a) H1
def V_ (K:Ê)(tl:TE):TI:=λL H R=>tl L H λx H1=>∃a,x=.ref a/\(∃xs,fE K H1 a xs)/\R (V9 K a) H1
theorem Lc {l:É}{tl:TE}(hl:PE X l tl):PI X tg l (S1 X.K tl):=by
 intro pins s L H R I h;refine cU (hl pins s L H _ I h) λv s1 h00=>?_;obtain⟨x,H1,I1,r1,q1⟩:=h00;obtain⟨a,e,⟨xs,hq⟩,q⟩:=q1;subst e;cases r1;obtain⟨its,rv,p,hz⟩:=I1.list hq;refine ϕ p.isList ?_;refine⟨s1.heap.objs.size,[s1.heap.objs.size],_,_,H1,rfl,I1.kept λb o e=>Ö _ e,EL a _,⟨_,æ _ rfl,rfl,rfl⟩,λb hb=>?_,q⟩;have e:=by simpa using hb
 subst e;exact I1.fpOk (Ð _) (I1.hok.fresh (Ð _))
theorem Pp {l:É}{tl:TE}(hl:PE X l tl):PI X tg l (V_ X.K tl):=by
 intro pins s L H R I h;refine cU (hl pins s L H _ I h) λv s1 h00=>?_;obtain⟨x,H1,I1,r1,q1⟩:=h00;obtain⟨a,e,⟨xs,hq⟩,q⟩:=q1;subst e;cases r1;obtain⟨its,rv,p,hz⟩:=I1.tuple hq;refine afg (show s1.heap.IsTuple a _ from p) ?_;refine⟨s1.heap.objs.size,[s1.heap.objs.size],_,_,H1,rfl,I1.kept λb o e=>Ö _ e,Bs a _,⟨_,æ _ rfl,rfl,rfl⟩,λb hb=>?_,q⟩;have e:=by simpa using hb
 subst e;exact I1.fpOk (Ð _) (I1.hok.fresh (Ð _))
theorem GA {R:It->Hp->Prop}{hi:Int}{t u v:Tok}{tk:Nat}(I:aP X pins L H s)(h1 : -(2 ^ 62)<=lo)(h2:lo<2 ^ 62)(h3 : -(2 ^ 62)<=hi)(h4:hi<2 ^ 62)(q:R (Vr lo (hi-lo).toNat) H):Å (Ä X.prog X.w) X.A (pyIter (.ref s.heap.objs.size)) (X4 X pins L tg R) E {s with heap:=s.heap.push {cls:=.type "range",data:=.fields #[.int lo t,.int hi u,.int 1 v]},toks:=tk}:=by
 refine wpAny_pyIter_range (IsRange.new ..) (small_one h1 h2 h3 h4) ?_;have I1:aP X pins L H {s with heap:=s.heap.push {cls:=.type "range",data:=.fields #[.int lo t,.int hi u,.int 1 v]},toks:=tk}:=I.kept λb o e=>Ö _ e;refine⟨(s.heap.push _).objs.size,[(s.heap.push _).objs.size],_,_,H,rfl,
  I1.kept λb o e=>Ö _ e,Bu _ lo _,?_,λb hb=>?_,q⟩
 ·have e1:lo+((0:Nat):Int)*1=lo:=by simp
  have e2:(((hi-lo).toNat:Nat):Int)-((0:Nat):Int)=aec lo hi 1:=by rw[rangeSize_one];split<;>lia
  rw[e1,e2];exact æ _ rfl
 ·have e:b=(s.heap.push {cls:=.type "range",data:=.fields #[.int lo t,.int hi u,.int 1 v]}).objs.size:=by simpa using hb
  subst e;exact I1.fpOk (Ð _) (I1.hok.fresh (Ð _))
def S2 (ta:TA):TI:=λL H R=>ta L H λvs H1=>∃j:Int,vs=[.int j]/\ -(2 ^ 62)<=j/\j<2 ^ 62/\R (Vr 0 j.toNat) H1
theorem EM {a:É}{ta:TA}{p:Pos}(hg:Gl X "range")(hm:X.mg "range"=Z)(ha:PA X [a] ta)(hs:Ç [a] X.env=[(Y,Ì a X.env)]:=by rfl):PI X tg (.Call (.Name "range" p) [a] [] pos) (S2 ta):=by
 intro pins s L H R I h;refine Call_ (sM I hg hm boot_range (adF (cU (ha pos pins s L H _ I h) λus s1 h00=>?_) hs rfl));obtain⟨vs,H1,I1,r1,q1⟩:=h00;obtain⟨j,e,q1,q2,q⟩:=q1;subst e;cases r1 with
 |cons r rr=>
  cases rr;obtain⟨t,rfl⟩:=r;exact call_range_1 (GA I1 (by lia) (by lia) q1 q2 (by simpa using q))
def Wa (wi:TI)(g:TG)(tb:TS):TS:=λD L H=>wi L H λJq H1=>∃W:Nat->Nat->St->Hp->Prop,(∃m,W 0 m L H1)/\∀i m L H,W i m L H->
 (Jq.stop i H/\D.nx L H)\/(Jq.go i H/\∃N:St->Hp->Prop,(∀L' H',N L' H'->∃m',m'<m/\W (i+1) m' L' H')/\∀x H',Jq.yld i H x H'->g x L H' λL2 H2=>tb {D with nx:=N,ct:=N,bk:=D.nx} L2 H2)
noncomputable def xo (fp:List G)(h:Í):List (G×Obj):=fp.filterMap λb=>(h.get? b).map λo=>(b,o)
def jB {o:Obj}(hb:b∈fp)(e:h.get? b=J o):(b,o)∈xo fp h:=afh.mpr ⟨b,hb,by rw[e];rfl⟩
theorem EN {p:G×Obj}(hp:p∈xo fp h):p.1∈fp/\h.get? p.1=J p.2:=by
 obtain⟨b,hb,e⟩:=afh.mp hp;cases q:h.get? b with
 |none=>rw[q] at e;cases e
 |some o=>
  rw[q] at e;have e' :=ó e;subst e';exact⟨hb,q⟩
theorem aP.pinned (I:aP X pins L H s)(hf:∀b∈fp,rj X pins H b)(ho:∀b∈fp,∃o,s.heap.get? b=J o/\∀v,o.data≠.cell v):aP X (pins++xo fp s.heap) L H s:=
 I.pins_of λp hp=>(ñ.mp hp).elim (λz=>I.pin p (Ē _ z)) λz=>by
  obtain⟨hb,e⟩:=EN z;obtain⟨f0,f1,f2,_⟩:=hf p.1 hb;obtain⟨o,e',d⟩:=ho p.1 hb;rw[e] at e';cases e';exact⟨e,f0,f1,f2,d⟩
def aP.unpinned {pl:List (G×Obj)}(I:aP X (pins++pl) L H s):aP X pins L H s:=I.pins_of λp hp=>I.pin p (Ē _ (ŷ _ hp))
theorem Pq {g:TG}{tb:TS}(hp:Μ (Ä X.prog X.w) X.A X.env X.xe)(hc:X.calm=M)(hi:PI X tg iter wi)(hg:PG X tg g)(hb:vy X body tb)(hs:∀x,Ō iter X.env x=pure x:=by intro _;rfl):PS X (.For tg iter body [] pos) (Wa wi g tb):=by
 intro pins s L H D I h;refine wpAny_For (cU (hi pins s L H _ I h) λv s1 h1=>cU h1 λVN s2 h2=>?_) hs;obtain⟨it,fp,tn,Jq,H2,e,I2,T,nE,f2,W,⟨m0,w0⟩,turn⟩:=h2;subst e;have RO:∀{H':Hp},(∀b∈fp,H' b=Z)->∀b∈fp,rj X pins H' b:=λhn b hb=>⟨hn b hb,(f2 b hb).2⟩;refine codeAny_forLoop_any (λn s'=>∃i L' H',aP X pins L' H' s'/\tn i s'.heap/\(∀b∈fp,H' b=Z)/\W i n L' H') ?_ m0 ⟨0,L,H2,I2,nE,λb hb=>(f2 b hb).1,w0⟩;rintro n s3 ⟨i,L3,H3,I3,K3,fr3,w3⟩;rcases turn i n L3 H3 w3 with⟨stop,qn⟩|⟨go,N,hN,step⟩
 ·refine ů hp (cU (T.done X rfl rfl rfl hc i pins s3 L3 H3 X.xe I3 (RO fr3) K3 stop) λr s4 ⟨hr,I4⟩=>?_);subst hr;exact ϖ ⟨L3,H3,I4,qn⟩
 ·refine ů hp (cU (T.item X rfl rfl rfl hc i pins s3 L3 H3 X.xe I3 (RO fr3) K3 go) λr s4 ⟨u,hr,h4⟩=>?_);subst hr;refine ů hp (cU h4 λ_ s5 h00=>?_);obtain⟨x,H5,I5,r5,y5,st5,fr5⟩:=h00;have Xg:=I5.pinned (RO fr5) (T.obj _ _ st5);refine ů hp (cU (hg _ s5 L3 H5 x u _ Xg r5 (step x H5 y5)) λ_ s6 h00=>?_);obtain⟨L6,H6,I6,q6⟩:=h00;refine ů hp (cU (hb _ s6 L6 H6 _ I6 q6) λf s7 q7=>?_);have again:∀{L7:St} {H7:Hp},aP X _ L7 H7 s7->N L7 H7->∃m,m<n/\∃i L' H',aP X pins L' H' s7/\tn i _/\(∀b∈fp,H' b=Z)/\W i m L' H':=λ{L7 H7} I7 n7=>by
   obtain⟨m',hm,w7⟩:=hN L7 H7 n7;refine⟨m',hm,i+1,L7,H7,I7.unpinned,T.keep _ _ _ st5 λb hb o e=>(I7.pin _ (Ē _ (Ē _ (jB hb e)))).1,λb hb=>?_,w7⟩;obtain⟨o,e,d⟩:=T.obj _ _ st5 b hb;exact (I7.pin _ (Ē _ (Ē _ (jB hb e)))).2.1
  cases f with
  |next=>obtain⟨L7,H7,I7,n7⟩:=q7;exact again I7 n7
  |cont=>obtain⟨L7,H7,I7,n7⟩:=q7;exact again I7 n7
  |brk=>obtain⟨L7,H7,I7,q7⟩:=q7;exact⟨L7,H7,I7.unpinned,q7⟩
  |ret v=>obtain⟨x7,L7,H7,I7,r7,q7⟩:=q7;exact⟨x7,L7,H7,I7.unpinned,r7,q7⟩
end L2
namespace L2
abbrev R2:=V->V->Hp->VK->Prop
def iL (X:Cx)(f:F->F->Sem F)(r:R2):Prop:=
 ∀(pins:List (G×Obj)) (s:Ã) (L:St) (H:Hp) (x y:V) (v u:F) (Q:VK),aP X pins L H s->bE x v->bE y u->r x y H Q->
  Å (Ä X.prog X.w) X.A (f v u) (EP X pins L Q) X.xe s
def eh (X:Cx)(f:F)(r:List V->Hp->VK->Prop):Prop:=
 ∀(pins:List (G×Obj)) (s:Ã) (L:St) (H:Hp) (xs:List V) (us:List F) (Q:VK),aP X pins L H s->bf xs us->r xs H Q->
  Å (Ä X.prog X.w) X.A (call f us) (EP X pins L Q) X.xe s
def Gg (r:R2)(ta tb:TE):TE:=λL H Q=>ta L H λx H1=>tb L H1 λy H2=>r x y H2 Q
def rI (C:Int->Int->Prop)(g:Int->Int->V):R2:=λx y H Q=>∃i j,x=.int i/\y=.int j/\C i j/\Q (g i j) H
def xp (g:Int->Int->V):R2:=λx y H Q=>∃i j,x=.int i/\y=.int j/\Q (g i j) H
section
variable {a b:É}{ta tb tc:TE}
def Pr (ha:PE X a ta)(hb:PE X b tb){R:V->V->Hp->Prop}(I:aP X pins L H s)(h:ta L H λx H1=>tb L H1 λy H2=>R x y H2){f:F->F->Sem F}(hf:∀v u s2 x y H2,aP X pins L H2 s2->bE x v->bE y u->R x y H2->Å (Ä X.prog X.w) X.A (f v u) Q X.xe s2) :
  Å (Ä X.prog X.w) X.A (Ì a X.env) (λv s₁=>Å (Ä X.prog X.w) X.A (Ì b X.env) (λu s₂=>Å (Ä X.prog X.w) X.A (f v u) Q X.xe s₂) X.xe s₁) X.xe s:=by
 refine cU (ha pins s L H _ I h) λv s1 h00=>?_;obtain⟨x,H1,I1,r1,q1⟩:=h00;refine cU (hb pins s1 L H1 _ I1 q1) λu s2 h00=>?_;obtain⟨y,H2,I2,r2,q2⟩:=h00;exact hf v u s2 x y H2 I2 r1 r2 q2
def GB {op:Operator}{r:R2}(ho:iL X (Ę op) r)(ha:PE X a ta)(hb:PE X b tb):PE X (.BinOp a op b pos) (Gg r ta tb):=by
 intro pins s L H Q I h;exact wpAny_BinOp (Pr ha hb I h λv u s2 x y H2 I2 rx ry q=>ho pins s2 L H2 x y v u Q I2 rx ry q)
theorem Vs {f:F->F->Sem F}{C:Int->Int->Prop}{g:Int->Int->Int}
  (rule:∀(i j:Int) (t u:Tok) (s:Ã) (Q:F->Ã->Prop) (E:F->Ã->Prop),C i j->Q (.int (g i j) s.toks) {s with toks:=s.toks+1}->Å (Ä X.prog X.w) X.A (f (.int i t) (.int j u)) Q E s) :
  iL X f (rI C λi j=>.int (g i j)):=by
 intro pins s L H x y v u Q I rx ry h;obtain⟨i,j,rfl,rfl,hc,q⟩:=h;obtain⟨t,rfl⟩:=rx;obtain⟨t',rfl⟩:=ry;exact rule i j t t' s _ _ hc ⟨.int _,H,I.tok _,⟨_,rfl⟩,q⟩
theorem S3 {f:F->F->Sem F}{g:Int->Int->Int}
  (rule:∀(i j:Int) (t u:Tok) (s:Ã) (Q:F->Ã->Prop) (E:F->Ã->Prop),Q (.int (g i j) s.toks) {s with toks:=s.toks+1}->Å (Ä X.prog X.w) X.A (f (.int i t) (.int j u)) Q E s) :
  iL X f (xp λi j=>.int (g i j)):=by
 intro pins s L H x y v u Q I rx ry h;obtain⟨i,j,rfl,rfl,q⟩:=h;obtain⟨t,rfl⟩:=rx;obtain⟨t',rfl⟩:=ry;exact rule i j t t' s _ _ ⟨.int _,H,I.tok _,⟨_,rfl⟩,q⟩
theorem Ld {f:F->F->Sem F}{g:Int->Int->Bool}
  (rule:∀(i j:Int) (t u:Tok) (s:Ã) (Q:F->Ã->Prop) (E:F->Ã->Prop),Q (.bool (g i j)) s->Å (Ä X.prog X.w) X.A (f (.int i t) (.int j u)) Q E s) :
  iL X f (xp λi j=>.bl (g i j)):=by
 intro pins s L H x y v u Q I rx ry h;obtain⟨i,j,rfl,rfl,q⟩:=h;obtain⟨t,rfl⟩:=rx;obtain⟨t',rfl⟩:=ry;exact rule i j t t' s _ _ ⟨.bl _,H,I,rfl,q⟩
def S4 (i j:Int):Prop:=0<=j/\j<=1000000/\i.natAbs<2 ^ 64
def Le (i j:Int):Prop:=(-(2 ^ 64)<i/\i<2 ^ 64)\/(-(2 ^ 64)<j/\j<2 ^ 64)
theorem Le.ok {i j:Int}(h:Le i j):IntMulOk i j:=by
 rcases h with⟨h1,h2⟩|⟨h1,h2⟩
 ·exact .of_left (intBits_le_64 h1 h2)
 ·exact .of_right (intBits_le_64 h1 h2)
def GC:iL X (Ę .Add) (xp λi j=>.int (i+j)):=S3 λ_ _ _ _ _ _ _ q=>add_int q
def ph:iL X (Ę .Sub) (xp λi j=>.int (i-j)):=S3 λ_ _ _ _ _ _ _ q=>sub_int q
def jC:iL X (Ę .Mult) (rI Le λi j=>.int (i*j)):=Vs λ_ _ _ _ _ _ _ hc q=>mul_int q hc.ok
theorem pj:iL X (Ę .Mod) (rI (λ_ j=>0<j) λi j=>.int (i % j)):=Vs λi j _ _ _ _ _ hc q=>by
 exact mod_int' (by lia) (by rw[Int.fmod_eq_emod_of_nonneg i (by lia)];exact q)
def GD:iL X (Ę .Pow) (rI S4 λi j=>.int (i ^ j.toNat)):=Vs λ_ _ _ _ _ _ _ hc q=>pow_int_small hc.1 hc.2.1 hc.2.2 q
end
noncomputable def S5:V->V->Bool
 | .non,.non=>M|.non,.int _=>M|.int _,.non=>M|.non,.bl _=>M|.bl _,.non=>M|.non,.str _=>M|.str _,.non=>M
 | .int _,.int _=>M|.bl _,.bl _=>M|.str _,.str _=>M|.byt _,.byt _=>M
 | .int _,.str _=>M|.str _,.int _=>M|.bl _,.str _=>M|.str _,.bl _=>M
 |_,_=>Y
def Wb:R2:=λx y H Q=>S5 x y=M/\Q (.bl (decide (x=y))) H
def Wc:R2:=λx y H Q=>S5 x y=M/\Q (.bl (!decide (x=y))) H
def rP {i j:Int}:decide (V.int i=V.int j)=(i==j):=by
 rw[Γ];simp
def xq {i j:Bool}:decide (V.bl i=V.bl j)=(i==j):=by
 rw[Γ];simp
def rQ {i j:Str}:decide (V.str i=V.str j)=(i==j):=by
 rw[Γ];simp
theorem CP {i j:Array UInt8}:decide (V.byt i=V.byt j)=(i.toList==j.toList):=by
 rw[Γ];simp
section
variable {a b:É}{ta tb tc:TE}
theorem bR {Q:VK}{k k':Bool}(I:aP X pins L H s)(q:Q (.bl k) H)(e:k=k'):EP X pins L Q (.bool k') s:=by
 subst e;exact⟨.bl k,H,I,rfl,q⟩
theorem fX:iL X (ú .Eq) Wb:=by
 intro pins s L H x y v u Q I rx ry h;obtain⟨hs,q⟩:=h;cases x with
 |non=>
  cases rx;cases y with
  |non=>cases ry;exact PySem.EqNone.eq_none_none (bR I q (by simp))
  |bl j=>cases ry;exact PySem.EqNone.eq_none_bool (bR I q (by simp))
  |int j=>obtain⟨t',rfl⟩:=ry;exact PySem.EqNone.eq_none_int (bR I q (by simp))
  |str j=>obtain⟨t',rfl⟩:=ry;exact PySem.EqNone.eq_none_str (bR I q (by simp))
  |_=>exact absurd (show Y=M from hs) ü
 |bl i=>
  cases rx;cases y with
  |non=>cases ry;exact PySem.EqNone.eq_bool_none (bR I q (by simp))
  |bl j=>cases ry;exact eq_bool (bR I q xq)
  |str j=>obtain⟨t',rfl⟩:=ry;exact PySem.EqMixed.eq_bool_str (bR I q (by simp))
  |_=>exact absurd (show Y=M from hs) ü
 |int i=>
  obtain⟨t,rfl⟩:=rx;cases y with
  |non=>cases ry;exact PySem.EqNone.eq_int_none (bR I q (by simp))
  |int j=>obtain⟨t',rfl⟩:=ry;exact eq_int (bR I q rP)
  |str j=>obtain⟨t',rfl⟩:=ry;exact PySem.EqMixed.eq_int_str (bR I q (by simp))
  |_=>exact absurd (show Y=M from hs) ü
 |str i=>
  obtain⟨t,rfl⟩:=rx;cases y with
  |non=>cases ry;exact PySem.EqNone.eq_str_none (bR I q (by simp))
  |bl j=>cases ry;exact PySem.EqMixed.eq_str_bool (bR I q (by simp))
  |int j=>obtain⟨t',rfl⟩:=ry;exact PySem.EqMixed.eq_str_int (bR I q (by simp))
  |str j=>obtain⟨t',rfl⟩:=ry;exact eq_str (bR I q rQ)
  |_=>exact absurd (show Y=M from hs) ü
 |byt i=>
  obtain⟨t,rfl⟩:=rx;cases y with
  |byt j=>obtain⟨t',rfl⟩:=ry;exact PySem.W.eq_bytes (bR I q CP)
  |_=>exact absurd (show Y=M from hs) ü
 |_=>cases y<;>exact absurd (show Y=M from hs) ü
theorem yZ:iL X (ú .NotEq) Wc:=by
 intro pins s L H x y v u Q I rx ry h;obtain⟨hs,q⟩:=h;cases x with
 |non=>
  cases rx;cases y with
  |non=>cases ry;exact PySem.EqNone.ne_none_none (bR I q (by simp))
  |bl j=>cases ry;exact PySem.EqNone.ne_none_bool (bR I q (by simp))
  |int j=>obtain⟨t',rfl⟩:=ry;exact PySem.EqNone.ne_none_int (bR I q (by simp))
  |str j=>obtain⟨t',rfl⟩:=ry;exact PySem.EqNone.ne_none_str (bR I q (by simp))
  |_=>exact absurd (show Y=M from hs) ü
 |bl i=>
  cases rx;cases y with
  |non=>cases ry;exact PySem.EqNone.ne_bool_none (bR I q (by simp))
  |bl j=>cases ry;exact ne_bool (bR I q (congrArg not xq))
  |str j=>obtain⟨t',rfl⟩:=ry;exact PySem.EqMixed.ne_bool_str (bR I q (by simp))
  |_=>exact absurd (show Y=M from hs) ü
 |int i=>
  obtain⟨t,rfl⟩:=rx;cases y with
  |non=>cases ry;exact PySem.EqNone.ne_int_none (bR I q (by simp))
  |int j=>obtain⟨t',rfl⟩:=ry;exact ne_int (bR I q (congrArg not rP))
  |str j=>obtain⟨t',rfl⟩:=ry;exact PySem.EqMixed.ne_int_str (bR I q (by simp))
  |_=>exact absurd (show Y=M from hs) ü
 |str i=>
  obtain⟨t,rfl⟩:=rx;cases y with
  |non=>cases ry;exact PySem.EqNone.ne_str_none (bR I q (by simp))
  |bl j=>cases ry;exact PySem.EqMixed.ne_str_bool (bR I q (by simp))
  |int j=>obtain⟨t',rfl⟩:=ry;exact PySem.EqMixed.ne_str_int (bR I q (by simp))
  |str j=>obtain⟨t',rfl⟩:=ry;exact ne_str (bR I q (congrArg not rQ))
  |_=>exact absurd (show Y=M from hs) ü
 |byt i=>
  obtain⟨t,rfl⟩:=rx;cases y with
  |byt j=>obtain⟨t',rfl⟩:=ry;exact PySem.W.ne_bytes (bR I q (congrArg not CP))
  |_=>exact absurd (show Y=M from hs) ü
 |_=>cases y<;>exact absurd (show Y=M from hs) ü
def nG:iL X (ú .Lt) (xp λi j=>.bl (decide (i<j))):=Ld λ_ _ _ _ _ _ _ q=>lt_int q
def sN:iL X (ú .LtE) (xp λi j=>.bl (decide (i<=j))):=Ld λ_ _ _ _ _ _ _ q=>le_int q
def qg:iL X (ú .Gt) (xp λi j=>.bl (decide (j<i))):=Ld λ_ _ _ _ _ _ _ q=>gt_int q
def S6:iL X (ú .GtE) (xp λi j=>.bl (decide (j<=i))):=Ld λ_ _ _ _ _ _ _ q=>ge_int q
theorem iL.or {f:F->F->Sem F}{r r':R2}(h:iL X f r)(h':iL X f r'):iL X f (λx y H Q=>r x y H Q\/r' x y H Q):=by
 intro pins s L H x y v u Q I rx ry q;rcases q with q|q
 ·exact h pins s L H x y v u Q I rx ry q
 ·exact h' pins s L H x y v u Q I rx ry q
theorem aD (b:É)(h:op≠.In:=by decide)(h2:op≠.NotIn:=by decide):Ű op b=Y:=by
 have e1:(op==CmpOp.In)=Y:=by lia
 have e2:(op==CmpOp.NotIn)=Y:=by lia
 cases b<;>simp[Ű,e1,e2]
def Lf {r:R2}(ho:iL X (ú op) r)(ha:PE X a ta)(hb:PE X b tb)(hm:Ű op b=Y):PE X (.Compare a [op] [b] pos) (Gg r ta tb):=by
 intro pins s L H Q I h;exact wpAny_Compare1 (Pr ha hb I h λv u s2 x y H2 I2 rx ry q=>ho pins s2 L H2 x y v u Q I2 rx ry q) hm
def v9 (t:TE):TT:=λL H Q=>t L H λx H'=>∃k,x=.bl k/\Q k H'
theorem nH {r:R2}(ho:iL X (ú op) r)(ha:PE X a ta)(hb:PE X b tb)(hm:Ű op b=Y):PT X (.Compare a [op] [b] pos) (v9 (Gg r ta tb)):=by
 intro pins s L H Q I h;refine wpAny_isTrue_Compare1 (cU (ha pins s L H _ I h) λv s1 ⟨x,H1,I1,r1,q1⟩=>cU (hb pins s1 L H1 _ I1 q1) λu s2 ⟨y,H2,I2,r2,q2⟩=>
  cU (ho pins s2 L H2 x y v u _ I2 r1 r2 q2) λc s3 ⟨z,H3,I3,r3,k,e,q3⟩=>?_) hm
 subst e;cases r3;exact ŋ ⟨H3,I3,q3⟩
def Bv (r r':R2)(ta tb tc:TE):TE:=λL H Q=>ta L H λx H1=>tb L H1 λy H2=>r x y H2 λz H3=>∃k,z=.bl k/\
 (if k=M then tc L H3 λw' H4=>r' y w' H4 Q else Q (.bl Y) H3)
theorem GF {r r':R2}(ho:iL X (ú op) r)(Cz:iL X (ú op') r')(ha:PE X a ta)(hb:PE X b tb)(hc:PE X c tc)(hm:lastMarks [op,op'] [b,c]=Y:=by with_unfolding_all rfl):PE X (.Compare a [op,op'] [b,c] pos) (Bv r r' ta tb tc):=by
 intro pins s L H Q I h;refine Compare_chain (cU (ha pins s L H _ I h) λv s1 ⟨x,H1,I1,r1,q1⟩=>chain_link (cU (hb pins s1 L H1 _ I1 q1) λu s2 ⟨y,H2,I2,r2,q2⟩=>
  cU (ho pins s2 L H2 x y v u _ I2 r1 r2 q2) λd s3 ⟨z,H3,I3,r3,k,e,q3⟩=>?_)) hm
 subst e;cases r3;refine ŋ ?_;cases k with
 |false=>exact ite_ff ⟨.bl Y,H3,I3,rfl,q3⟩
 |true=>exact ite_tt (chain_last (cU (hc pins s3 L H3 _ I3 q3) λw' s4 ⟨z',H4,I4,r4,q4⟩=>Cz pins s4 L H4 y z' u w' Q I4 r2 r4 q4))
theorem GG {r r':R2}(ho:iL X (ú op) r)(Cz:iL X (ú op') r')(ha:PE X a ta)(hb:PE X b tb)(hc:PE X c tc)(hm:lastMarks [op,op'] [b,c]=Y:=by with_unfolding_all rfl):PT X (.Compare a [op,op'] [b,c] pos) (v9 (Bv r r' ta tb tc)):=by
 intro pins s L H Q I h;refine isTrue_chain (cU (ha pins s L H _ I h) λv s1 ⟨x,H1,I1,r1,q1⟩=>test_link (cU (hb pins s1 L H1 _ I1 q1) λu s2 ⟨y,H2,I2,r2,q2⟩=>
  cU (ho pins s2 L H2 x y v u _ I2 r1 r2 q2) λd s3 ⟨z,H3,I3,r3,k,e,q3⟩=>?_)) hm
 subst e;cases r3;refine ŋ ?_;cases k with
 |false=>
  obtain⟨k',e',q'⟩:=q3;cases e';exact ite_ff ⟨H3,I3,q'⟩
 |true=>
  refine ite_tt (test_last (cU (hc pins s3 L H3 _ I3 q3) λw' s4 ⟨z',H4,I4,r4,q4⟩=>cU (Cz pins s4 L H4 y z' u w' _ I4 r2 r4 q4) λd' s5 h00=>?_));obtain⟨z2,H5,I5,r5,k2,e2,q5⟩:=h00;subst e2;cases r5;exact ŋ ⟨H5,I5,q5⟩
def xr:(Â:Nat)<2 ^ 63:=by decide
theorem gD {x:V}{us:List F}(r:bf [x] us):∃u,us=[u]/\bE x u:=by
 cases r with
 |cons r1 r2=>cases r2;exact⟨_,rfl,r1⟩
theorem GH {x y:V}{us:List F}(r:bf [x,y] us):∃u w',us=[u,w']/\bE x u/\bE y w':=by
 cases r with
 |cons r1 r2=>
  cases r2 with
  |cons r3 r4=>cases r4;exact⟨_,_,rfl,r1,r3⟩
theorem EO (hc:X.calm=M):eh X (.builtin "max") (λxs H Q=>∃i j,xs=[.int i,.int j]/\Q (.int (if j>i then j else i)) H):=by
 intro pins s L H xs us Q I r h;obtain⟨i,j,rfl,q⟩:=h;obtain⟨u,w',rfl,⟨t,rfl⟩,⟨t',rfl⟩⟩:=GH r;refine max_two_ints (I.ok.hd hc) λh' tk k=>⟨_,H,I.kept k,?_,q⟩;by_cases hj:j>i
 ·rw[hV hj,hV hj];exact⟨_,rfl⟩
 ·rw[hU hj,hU hj];exact⟨_,rfl⟩
theorem v_ (hc:X.calm=M):eh X (.builtin "min") (λxs H Q=>∃i j,xs=[.int i,.int j]/\Q (.int (if j<i then j else i)) H):=by
 intro pins s L H xs us Q I r h;obtain⟨i,j,rfl,q⟩:=h;obtain⟨u,w',rfl,⟨t,rfl⟩,⟨t',rfl⟩⟩:=GH r;refine min_two_ints (I.ok.hd hc) λh' tk k=>⟨_,H,I.kept k,?_,q⟩;by_cases hj:j<i
 ·rw[hV hj,hV hj];exact⟨_,rfl⟩
 ·rw[hU hj,hU hj];exact⟨_,rfl⟩
theorem wa:eh X (.type "int") (λxs H Q=>(∃i,xs=[.int i]/\Q (.int i) H)\/∃k,xs=[.bl k]/\Q (.int (if k then 1 else 0)) H):=by
 intro pins s L H xs us Q I r h;rcases h with⟨i,rfl,q⟩|⟨k,rfl,q⟩
 ·obtain⟨u,rfl,t,rfl⟩:=gD r;exact call_int_int ⟨.int i,H,I,⟨_,rfl⟩,q⟩
 ·obtain⟨u,rfl,r1⟩:=gD r;cases r1;exact call_int_bool ⟨.int _,H,I.tok _,⟨_,rfl⟩,q⟩
def Pt (K:Ê)(x:V)(H:Hp)(n:Nat):Prop:=
 match x with
 | .str y=>y.length<=Â/\n=y.length
 | .byt y=>y.size<=Â/\n=y.size
 | .ref p=>(∃xs,eI K H p xs/\n=xs.length)\/∃xs,fE K H p xs/\n=xs.length
 |_=>False
theorem bD:eh X (.builtin "len") (λxs H Q=>∃x n,xs=[x]/\Pt X.K x H n/\Q (.int n) H):=by
 intro pins s L H xs us Q I r h;obtain⟨x,n,rfl,e,q⟩:=h;obtain⟨u,rfl,rx⟩:=gD r;have hs:=ī;cases x with
 |str y=>
  obtain⟨t,rfl⟩:=rx;obtain⟨hy,e'⟩:y.length<=Â/\n=y.length:=e;subst e';exact len_str (by lia) ⟨.int _,H,I.tok _,⟨_,rfl⟩,q⟩
 |byt y=>
  obtain⟨t,rfl⟩:=rx;obtain⟨hy,e'⟩:y.size<=Â/\n=y.size:=e;subst e';exact PySem.W.len_bytes (by lia) ⟨.int _,H,I.tok _,⟨_,rfl⟩,q⟩
 |ref p=>
  cases rx;have e' :=e;rcases e' with⟨xs,hx,e'⟩|⟨xs,hx,e'⟩
  ·subst e';obtain⟨its,r',pl,hz⟩:=I.list hx;have ef:=r'.length;exact Calls.call_len_list pl.isList (by simp only[ë];lia) ⟨.int _,H,I.tok _,⟨_,by simp only[ë];rw[ef]⟩,q⟩
  ·subst e';obtain⟨its,r',pl,hz⟩:=I.tuple hx;have ef:=r'.length;exact len_tuple pl (by simp only[ë];lia) ⟨.int _,H,I.tok _,⟨_,by simp only[ë];rw[ef]⟩,q⟩
 |_=>exact (show False from e).elim
end
end L2
variable {r':L2.R2}
namespace L2
structure Bw (h:Í)(x dx C:G)(mA:Str->Option F):Prop where
 obj:h.get? x=J (Φ C dx)
 ns:h.Ns1 dx mA
 ne:dx≠x
theorem ER {dx:G}{mA:Str->Option F}(n:h.Ns1 dx mA):∃od,h.get? dx=J od/\∀name,ϭ name od=J (mA name):=by
 obtain⟨o,es,ep,ho,hd,hk,_,hm⟩:=n;refine⟨o,ho,λname=>?_⟩;have e:=hm name;unfold nsFind findBy at e;rw[<-Array.find?_toList] at e;unfold ϭ;rw[hd];dsimp only;split
 ·rename_i y q;rw[q] at e;exact congrArg J e
 ·rename_i q;rw[q] at e;have a:es.toList.any (·.refKey)=Y:=by
   rw[List.any_eq_false];intro y hy;obtain⟨z,t,Nf⟩:=hk y (Array.mem_toList_iff.mp hy);simp[DictEntry.refKey,Nf]
  grind
def Bw.look {x dx:G}{mA:Str->Option F}(I:Bw h x dx C mA):∃od,PySem.W.InstAt h x (Φ C dx) C (J od)/\∀name,ϭ name od=J (mA name):=
 let ⟨od,ho,hl⟩:=ER I.ns
 ⟨od,⟨I.obj,rfl,rfl,ho⟩,hl⟩
section
variable {A:Ñ}{x dx:G}{mA:Str->Option F}{name:Str}{v:F}
theorem Lg {Xh:Bool}(X:K.In s.heap)(I:Bw s.heap x dx C mA)(hg:ω K C name=M)(hh:ϫ K C=M)(ha:ğ K (.ref C) name=J Z)(hv:mA name=J v)(Zd:PySem.W.handedIn v=M)(h:Q v {s with toks:=s.toks+1}) :
  Å (Ä prog w) A (getAttr (.ref x) name Xh) Q E s:=by
 obtain⟨od,Jq,hl⟩:=I.look;exact PySem.W.get_value X Jq (aeZ hg).1 (PySem.W.findObj_own hh ha rfl (by rw[hl,hv])) Zd h
theorem GI {Q:F×List F->Ã->Prop}(X:K.In s.heap)(I:Bw s.heap x dx C mA)(hg:ω K C name=M)(hf:ğ K (.ref C) name=J (J (.ref f)))(ht:ϊ K (.ref f)=M)(hv:mA name=Z)(h:Q (.ref f,[.ref x]) s) :
  Å (Ä prog w) A (ŝ (.ref x) name pl) Q E s:=by
 obtain⟨od,Jq,hl⟩:=I.look;exact PySem.W.method_fn X Jq (aeZ hg).1 (aeZ hg).2 hf (beq_iff_eq.mp ht) (by show (ϭ name od).map _=J _;rw[hl,hv];rfl) h
theorem Lh {ns:List Str}{Q:Unit->Ã->Prop}(X:K.In s.heap)(I:Bw s.heap x dx C mA)
  (hs:ğ K (.ref C) "__setattr__"=J (J (.builtin "object.__setattr__"))) (hp:afx K C=M) (ht:PySem.W.takerIn K C name=J Z) (hh:ϫ K C=M)
  (hw:PySem.Within mA ns) (hsz:ns.length<=Â)
  (h:∀h',Bw h' x dx C (λy=>if y=name then J v else mA y)->œ dx s.heap h'->Q () {s with heap:=h',toks:=s.toks+2}) :
  Å (Ä prog w) A (setAttr (.ref x) name v) Q E s:=by
 obtain⟨od,Jq,hl⟩:=I.look;refine PySem.W.set_plain X Jq hs (PySem.W.osa_open X Jq hp ht λb=>?_);obtain⟨cd,hc,hd'⟩:=PySem.W.any_some hh;have hx:=I.obj;refine À (Ë (À (À (wpAny_loadPart hx (À (PySem.W.Looks.here (PySem.W.looks_clsIn X hc) ?_))))));rw[hd'];refine Ë (À (Ë (À ?_)));refine wpAny_nsSet1 I.ns λh' M8 iK=>?_;obtain⟨oD,esD,epD,hoD,hdD,hcD⟩:=M8.count (PySem.Within.cons name v hw);refine À (wpAny_lookBehind hoD (by rw[hdD];exact pastItsLine_dict (ä hcD (by rw[Ò];lia))) ?_);exact Ë (h _ ⟨(iK.2 _ (Ĝ I.ne)).trans I.obj,M8,I.ne⟩ iK)
def GJ {R:Result->Ã->Prop}{vs:List F}(X:K.In s.heap)(hm:PySem.W.makesIn K C=M)(hi:ğ K (.ref C) "__init__"=J (J (.ref f)))(hf:PySem.W.typeIn K (.ref f)=J (.type "function"))(h:ĺ (Ä prog w) (A.under (.builtin "type.__call__" ⟨.ref C::vs,kw⟩)) (.call (.ref f) ⟨.ref (s.heap.objs.size+1)::vs,kw⟩) (PySem.W.InitBack (s.heap.objs.size+1) R)
   {s with heap:=(s.heap.push ψ).push (Φ C s.heap.objs.size)}) :
  ĺ (Ä prog w) A (.call (.ref C) ⟨vs,kw⟩) R s:=by
 exact PySem.W.make_core (PySem.W.makes_of X hm) (PySem.W.looks_findIn X hi) (λself=>PySem.W.bind_fn X self hf) (.inl rfl) h
end
noncomputable def l6 (f:Str)(v:V):List (Str×V)->List (Str×V)
 | []=>[(f,v)]
 | (g,x)::r=>if g=f then (g,v)::r else (g,x)::l6 f v r
theorem qh (f g:Str)(v:V):∀fs:List (Str×V),(l6 f v fs).lookup g=if g=f then J v else fs.lookup g
 | []=>by
  show ő g [(f,v)]=_;by_cases h:g=f
  ·have hb:=beq_iff_eq.mpr h;simp only[ő,hb,hV h]
  ·have hb:=beq_eq_false_iff_ne.mpr h;simp only[ő,hb,hU h]
 | (k,x)::r=>by
  have ih:=qh f g v r;rw[show l6 f v _=(if k=f then (k,v)::r else (k,x)::l6 f v r) from rfl];grind
theorem pq (f:Str)(v:V):∀fs:List (Str×V),f∈(l6 f v fs).map (·.1)/\∀g,g∈fs.map (·.1)->g∈(l6 f v fs).map (·.1)
 | []=>⟨by simp[l6],λg h=>by simp at h⟩
 | (k,x)::r=>by
  obtain⟨i1,i2⟩:=pq f v r;rw[show l6 f v _=(if k=f then (k,v)::r else (k,x)::l6 f v r) from rfl];grind
theorem qi (f:Str)(v:V):∀fs:List (Str×V),(l6 f v fs).length<=fs.length+1
 | []=>by simp[l6]
 | (k,x)::r=>by
  have ih:=qi f v r;rw[show l6 f v _=(if k=f then (k,v)::r else (k,x)::l6 f v r) from rfl];by_cases hk:k=f
  ·rw[hV hk,Ò,Ò];lia
  ·rw[hU hk,Ò,Ò];lia
theorem o_.some_of {o:Option F}(r:o_ (J v) o):∃u,o=J u/\bE v u:=by
 cases o with
 |none=>exact (show False from r).elim
 |some u=>exact⟨u,rfl,r⟩
theorem o_.none_of {o:Option F}(r:o_ Z o):o=Z:=by
 cases o with
 |none=>rfl
 |some u=>exact (show False from r).elim
theorem ES {u:F}(r:bE v u):PySem.W.handedIn u=M:=by
 cases v with
 |non=>cases (r);rfl
 |bl b=>cases (r);rfl
 |int i=>obtain⟨t,e⟩:=(r);cases e;rfl
 |str x=>obtain⟨t,e⟩:=(r);cases e;rfl
 |byt b=>obtain⟨t,e⟩:=(r);cases e;rfl
 |flt b=>obtain⟨t,e⟩:=(r);cases e;rfl
 |ref a=>cases (r);rfl
 |ty n=>cases (r);rfl
section
variable {dx:G}{fs fs':List (Str×V)}
theorem rR (hok:pb P w H h)(e:H a=J (.ins C dx fs)):∃mA,Bw h a dx C mA/\(∀f,o_ (fs.lookup f) (mA f))/\PySem.Within mA (fs.map (·.1))/\fs.length<=1000/\H dx=J (.own a):=by
 obtain⟨d,z,ne,ob,mA,n,r,q⟩:=(show dE P w H h a _ from hok a _ e);exact⟨mA,⟨ob,n,ne⟩,r,q,z,d⟩
end
structure Bi (K:Ê)(C:G):Prop where
 pg:ω K C č=M
 hd:ϫ K C=M
 po:afx K C=M
 sa:ğ K (.ref C) "__setattr__"=J (J (.builtin "object.__setattr__"))
def Bi.get (c:Bi K C)(f:Str):ω K C f=M:=c.pg
def jD (K:Ê)(C:G)(f:Str):Prop:=ğ K (.ref C) f=J Z
def jD.taker {f:Str}(n:jD K C f):PySem.W.takerIn K C f=J Z:=by
 unfold PySem.W.takerIn;rw[n];rfl
structure Z8 (K:Ê)(C:G)(f:Str)(v:V)(u:F):Prop where
 at_:ğ K (.ref C) f=J (J u)
 rel:bE v u
 get:PySem.W.specialIn K u "__get__"=J Z
 cp:PySem.W.copiedNames.contains f=Y
structure nI (K:Ê)(C:G)(m:Str)(f:G):Prop where
 at_:ğ K (.ref C) m=J (J (.ref f))
 fn:ϊ K (.ref f)=M
 kp:Ń K (.ref f)=M
section
variable {dx:G}{fs:List (Str×V)}{f:Str}{A:Ñ}
theorem sO {b:Bool}(I:aP X pins L H s)(e:H a=J (.ins C dx fs))(c:Bi X.K C)(n:jD X.K C f)(l:fs.lookup f=J v)(h:∀u s',aP X pins L H s'->bE v u->Q u s'):Å (Ä X.prog X.w) A (getAttr (.ref a) f b) Q E s:=by
 obtain⟨mA,O,r,_,_,_⟩:=rR I.hok e;obtain⟨u,hu,ru⟩:=o_.some_of (by rw[<-l];exact r f);exact Lg I.kIn O (c.get f) c.hd n hu (ES ru) (h u _ (I.tok _) ru)
theorem sP {m:Str}{g:G}{Q:F×List F->Ã->Prop}(I:aP X pins L H s)(e:H a=J (.ins C dx fs))(c:Bi X.K C)(k:nI X.K C m g)(l:fs.lookup m=Z)(h:Q (.ref g,[.ref a]) s):Å (Ä X.prog X.w) A (ŝ (.ref a) m pl) Q E s:=by
 obtain⟨mA,O,r,_,_,_⟩:=rR I.hok e;have hn:=o_.none_of (by rw[<-l];exact r m);exact GI I.kIn O (c.get m) k.at_ k.fn hn h
theorem mP {y:V}{u:F}{Q:Unit->Ã->Prop}(I:aP X pins L H s)(e:H a=J (.ins C dx fs))(c:Bi X.K C)(n:jD X.K C f)(hl:fs.length<1000)(ry:bE y u)
  (h:∀s',aP X pins L (cT H a (.ins C dx (l6 f y fs))) s'->Q () s'):Å (Ä X.prog X.w) A (setAttr (.ref a) f u) Q E s:=by
 obtain⟨mA,O,r,wi,_,ho⟩:=rR I.hok e;have hz:(fs.map (·.1)).length<=Â:=by rw[Æ,ī];lia
 refine Lh I.kIn O c.sa c.po n.taker c.hd wi hz λh' O' sb=>h _ ?_;have hd:∃o,h'.get? dx=J o:=let ⟨o,_,_,e',_⟩:=O'.ns;⟨o,e'⟩
 refine I.write (by rw[e];exact True.intro) (.inr ho) (λb q hb z=>(sb.2 b hb).trans z) hd ?_;refine⟨by rw[aL O.ne];exact ho,?_,O.ne,O'.obj,_,O'.ns,λg=>?_,λg hg=>?_⟩
 ·have:=qi f y fs;lia
 ·rw[qh];by_cases q:g=f
  ·rw[hV q,hV q];exact ry
  ·rw[hU q,hU q];exact r g
 ·by_cases q:g=f
  ·rw[q];exact (pq f y fs).1
  ·refine (pq f y fs).2 g (wi g λz=>hg ?_);show (if g=f then J u else mA g)=Z;rw[hU q];exact z
def aP.made (I:aP X pins L H s):aP X pins L (cT (cT H s.heap.objs.size (.own (s.heap.objs.size+1))) (s.heap.objs.size+1) (.ins C s.heap.objs.size []))
  {s with heap:=(s.heap.push ψ).push (Φ C s.heap.objs.size)}:=by
 have e1:(s.heap.push ψ).get? _=J _:=æ _ rfl;have e2:=by
  have:=æ (s.heap.push ψ) (o:=Φ C s.heap.objs.size) rfl
  rwa [Đ] at this
 have e3:(s.heap.push _).Ns _ _:=⟨ψ,#[],_,e1,rfl,(λe he=>absurd he (by simp)),λ_=>rfl⟩;have I1:=I.laid (o:=.own (s.heap.objs.size+1)) (t':=s.toks) (λb u q=>Ö _ q) (Ð _) ⟨_,e1⟩;refine I1.laid (λb u q=>Ö _ q) (Nat.le_of_eq (Đ _ _)) ?_;have ne:s.heap.objs.size≠s.heap.objs.size+1:=è (δ _);refine⟨by rw[aL ne,aW],Ħ _,ne,e2,λ_=>Z,(Heap.Ns1.of_empty e3).at λo q=>Ö _ q,λ_=>True.intro,λy hy=>absurd rfl hy⟩
def Li {e:É}{f:Str}(hb:Ķ e f env (Ì e env)=Ì e env)(h:Å (Ä prog w) A (Ì e env) (λo s₁=>Å (Ä prog w) A (getAttr o f M) Q E s₁) E s):Å (Ä prog w) A (Ì (.Attribute e f pos) env) Q E s:=
 Attribute_any_ h (by rw[arm_eval_Attribute,hb])
end
def S7 (K:Ê)(ta:TE)(f:Str):TE:=λL H Q=>ta L H λx H1=>∃a C dx fs v,x=.ref a/\H1 a=J (.ins C dx fs)/\Bi K C/\jD K C f/\fs.lookup f=J v/\Q v H1
def Pu (K:Ê)(ta tv:TE)(f:Str):TS:=λD L H=>tv L H λy H1=>ta L H1 λx H2=>∃a C dx fs,x=.ref a/\H2 a=J (.ins C dx fs)/\Bi K C/\jD K C f/\fs.length<1000/\
 D.nx L (cT H2 a (.ins C dx (l6 f y fs)))
def S8 (X:Cx)(op:Operator)(rd:V->V->Hp->VK->Prop):Prop:=
 ∀(pins:List (G×Obj)) (s:Ã) (L:St) (H:Hp) (x y:V) (u v:F) (Q:VK),aP X pins L H s->bE x u->bE y v->rd x y H Q->Å (Ä X.prog X.w) X.A (inplaceOp op u v) (EP X pins L Q) X.xe s
def xt (K:Ê)(ta tv:TE)(rd:V->V->Hp->VK->Prop)(f:Str):TS:=λD L H=>ta L H λx H1=>∃a C dx fs v,x=.ref a/\H1 a=J (.ins C dx fs)/\Bi K C/\jD K C f/\fs.lookup f=J v/\
 tv L H1 λy H2=>rd v y H2 λz H3=>∃dx' fs',H3 a=J (.ins C dx' fs')/\fs'.length<1000/\D.nx L (cT H3 a (.ins C dx' (l6 f z fs')))
section
variable {o e value:É}{f:Str}{tpos:Pos}{ta tv:TE}
theorem Pw (he:PE X e ta)(hb:Ķ e f X.env (Ì e X.env)=Ì e X.env):PE X (.Attribute e f pos) (S7 X.K ta f):=by
 intro pins s L H Q I h;refine Li hb (cU (he pins s L H _ I h) λu s1 h00=>?_);obtain⟨x,H1,I1,rx,a,C,dx,fs,v,ex,ea,c,n,l,q⟩:=h00;subst ex;obtain rfl:u=Value.ref a:=rx;exact sO I1 ea c n l λu' s2 I2 ru=>⟨v,H1,I2,ru,q⟩
theorem Px (ha:PE X o ta)(hv:PE X value tv)(hs:Ĭ value (J (.Attribute o f pos')) pos.line X.env=pure Y):PS X (.Assign [.Attribute o f pos'] value pos) (Pu X.K ta tv f):=by
 intro pins s L H D I h;refine aew (cU (hv pins s L H _ I h) λu s1 ⟨y,H1,I1,ry,q⟩=>cU (ha pins s1 L H1 _ I1 q) λov s2 h00=>?_) hs;obtain⟨x,H2,I2,rx,a,C,dx,fs,ex,ea,c,n,l,q2⟩:=h00;subst ex;obtain rfl:ov=Value.ref a:=rx;exact mP I2 ea c n l ry λs3 I3=>⟨L,_,I3,q2⟩
theorem ET {op:Operator}{rd:V->V->Hp->VK->Prop}(ha:PE X o ta)(hv:PE X value tv)(Ze:S8 X op rd):PS X (.AugAssign (.Attribute o f tpos) op value pos) (xt X.K ta tv rd f):=by
 intro pins s L H D I h;refine wpAny_AugAssign_AttributeAny (cU (ha pins s L H _ I h) λov s1 h00=>?_);obtain⟨x,H1,I1,rx,a,C,dx,fs,v,ex,ea,c,n,l,q⟩:=h00;subst ex;obtain rfl:ov=Value.ref a:=rx;refine sO I1 ea c n l λu s2 I2 ru=>cU (hv pins s2 L H1 _ I2 q) λw3 s3 ⟨y,H2,I3,ry,q3⟩=>cU (Ze pins s3 L H2 v y u w3 _ I3 ru ry q3) λw4 s4 h00=>?_;obtain⟨z,H3,I4,rz,dx',fs',ea',l',q4⟩:=h00;exact mP I4 ea' c n l' rz λs5 I5=>⟨L,_,I5,q4⟩
def Py:V->V->Hp->VK->Prop:=λx y H Q=>∃i j,x=.int i/\y=.int j/\Q (.int (i+j)) H
theorem Pz:S8 X .Add Py:=by
 rintro pins s L H x y u v Q I rx ry ⟨i,j,rfl,rfl,q⟩;obtain⟨t,rfl⟩:=(show ∃t,u=Value.int i t from rx);obtain⟨t',rfl⟩:=(show ∃t',v=Value.int j t' from ry);exact PyProof.Rows.iadd_int ⟨.int _,H,I.tok _,⟨_,rfl⟩,q⟩
end
section
variable {A:Ñ}{c:F}{b:Bool}
inductive pz (K:Ê)(H:Hp):V->F->Prop where
 |non:pz K H .non (.type "NoneType")
 |bl (x:Bool):pz K H (.bl x) (.type "bool")
 |int (i:Int):pz K H (.int i) (.type "int")
 |str (x:Str):pz K H (.str x) (.type "str")
 |flt (x:UInt64):pz K H (.flt x) (.type "float")
 |lst {a:G} {xs:List V} (e:H a=J (.lst xs)):pz K H (.ref a) (.type "list")
 |frz {a:G} {o:Obj} {xs:List V} (e:H a=J (.frz o (.lst xs))):pz K H (.ref a) (.type "list")
 |tup {a:G} {xs:List V} (e:H a=J (.tup xs)):pz K H (.ref a) (.type "tuple")
 |dK {a:G} {gU:List (md×V)} (e:H a=J (.dK gU)):pz K H (.ref a) (.type "dict")
 |dT {a:G} {gU:List (List md×V)} (e:H a=J (.dT gU)):pz K H (.ref a) (.type "dict")
 |ins {a C dx:G} {fs:List (Str×V)} (e:H a=J (.ins C dx fs)) (cl:Bi K C) (ha:ğ K (.ref C) "__class__"=J (J (.builtin "object.__class__")))
   (hn:PySem.W.specialIn K (.builtin "object.__class__") "__get__"=J (J (.builtin "getset_descriptor.__get__"))) (htk:PySem.W.takesIn K (.builtin "object.__class__")=J M)
   (hm:PySem.W.mroIn K C (.type "object")=J M):pz K H (.ref a) (.ref C)
theorem EU {x:V}{u t:F}(I:aP X pins L H s)(rx:bE x u)(ty:pz X.K H x t)(e:PySem.W.kitOne X.K t c=J b)(h:∀tk,Q (.bool b) {s with toks:=tk}) :
  Å (Ä X.prog X.w) A (call (.builtin "isinstance") [u,c]) Q E s:=by
 cases ty with
 |non=>cases (show u=Value.none from rx);exact ļ PySem.W.kitx_none I.kIn True.intro e (λz=>nomatch z) h
 |bl y=>cases (show u=Value.bool y from rx);exact ļ PySem.W.kitx_bool I.kIn True.intro e (λz=>nomatch z) h
 |int i=>obtain⟨t,q⟩:=(show ∃t,u=Value.int i t from rx);cases q;exact ļ PySem.W.kitx_int I.kIn True.intro e (λz=>nomatch z) h
 |str y=>obtain⟨t,q⟩:=(show ∃t,u=Value.str y t from rx);cases q;exact ļ PySem.W.kitx_str I.kIn True.intro e (λz=>nomatch z) h
 |flt y=>obtain⟨t,q⟩:=(show ∃t,u=Value.float y t from rx);cases q;exact ļ PySem.W.kitx_float I.kIn True.intro e (λz=>nomatch z) h
 | @lst a xs ea=>
  cases (show u=Value.ref a from rx);obtain⟨_,_,n,_,h1⟩:=(show dE _ X.w H _ a _ from I.hok a _ ea);exact ļ PySem.W.kitx_list I.kIn ⟨_,h1,rfl⟩ e (λz=>nomatch z) h
 | @frz a ob xs ea=>
  cases (show u=Value.ref a from rx);obtain⟨_,_,_,n,_,h1⟩:=(show dE _ X.w H _ a _ from I.hok a _ ea);exact ļ PySem.W.kitx_list I.kIn ⟨_,h1,rfl⟩ e (λz=>nomatch z) h
 | @tup a xs ea=>
  cases (show u=Value.ref a from rx);obtain⟨_,_,_,p,_⟩:=(show dE _ X.w H _ a _ from I.hok a _ ea);obtain⟨o,h1,h2,_⟩:=p;exact ļ PySem.W.kitx_tuple I.kIn ⟨o,h1,h2⟩ e (λz=>nomatch z) h
 | @dK a gU ea=>
  cases (show u=Value.ref a from rx);obtain⟨_,_,vs,_,p⟩:=(show dE _ X.w H _ a _ from I.hok a _ ea);obtain⟨o,es,ep,h1,h2,_⟩:=p;exact ļ PySem.W.kitx_dict I.kIn ⟨o,h1,h2.1⟩ e (λz=>nomatch z) h
 | @dT a gU ea=>
  cases (show u=Value.ref a from rx);obtain⟨_,_,xs,_,o,es,ep,h1,h2,_⟩:=(show dE _ X.w H _ a _ from I.hok a _ ea);exact ļ PySem.W.kitx_dict I.kIn ⟨o,h1,h2.1⟩ e (λz=>nomatch z) h
 | @ins a C dx fs ea cl ha hn htk hm=>
  cases (show u=Value.ref a from rx);obtain⟨mA,O,_⟩:=rR I.hok ea;obtain⟨od,Jq,_⟩:=O.look;exact ļ (PySem.W.kitx_own (cl.get _) cl.hd ha hn htk hm) I.kIn Jq e (λz=>nomatch z) h
end
end L2
namespace L2
structure cI (k:Nat)(A:Ñ):Prop where
 hd:A.handled=Z
 dp:A.depth+3*k+5<recursionLimit
 un:A.units+16*k+200<î
theorem cI.mono {A:Ñ}(r:cI k A)(h:j<=k):cI j A:=⟨r.hd,by have:=r.dp;lia,by have:=r.un;lia⟩
theorem cI.deeper {A:Ñ}(r:cI (k+1) A)(env:Env):cI k (A.deeper env):=
 ⟨r.hd,by have:=r.dp;show A.depth+1+3*k+5<_;lia,by have:=r.un;show A.units+3+16*k+200<_;lia⟩
def Bx {A:Ñ}{us:List F}:(A.under (.builtin "type.__call__" ⟨.ref C::us,kw⟩)).depth=A.depth+1:=by
 rfl
def By {A:Ñ}{us:List F}:(A.under (.builtin "type.__call__" ⟨.ref C::us,kw⟩)).units=A.units+1:=by
 rfl
theorem cI.make {A:Ñ}(r:cI (k+1) A)(C:G)(us:List F)(kw:List (Str×F)):cI k (A.under (.builtin "type.__call__" ⟨.ref C::us,kw⟩)):=
 ⟨r.hd,by have:=r.dp;rw[Bx];(simp;lia),by have:=r.un;rw[By];lia⟩
theorem cI.depth {A:Ñ}(r:cI k A):A.depth<recursionLimit:=by have:=r.dp;lia
theorem cI.units {A:Ñ}(r:cI k A):A.units+64<î:=by have:=r.un;lia
def g7:TA:=λ_ H Q=>Q [] H
def dM (ta:TE)(tr:TA):TA:=λL H Q=>ta L H λx H1=>tr L H1 λxs H2=>Q (x::xs) H2
section
variable {e:É}{t:TA}
def gm:PA X [] g7:=λ_ _ _ _ H Q I h=>Calls.spliced_nil ⟨[],H,I,.nil,h⟩
def df (ha:PE X e te)(hr:PA X es t)(hs:Ç (e::es) X.env=(Y,Ì e X.env)::Ç es X.env:=by rfl):PA X (e::es) (dM te t):=by
 intro pos pins s L H Q I h;rw[hs];refine afj (cU (ha pins s L H _ I h) λu s1 h00=>?_);obtain⟨x,H1,I1,r1,q1⟩:=h00;exact cU (hr pos pins s1 L H1 _ I1 q1) λus s2 ⟨xs,H2,I2,r2,q2⟩=>⟨x::xs,H2,I2,.cons r1 r2,q2⟩
def PB (t:TA):TE:=λL H Q=>t L H λxs H1=>xs.length<=Â/\∀p,H1 p=Z->Q (.ref p) (cT H1 p (.tup xs))
def Lj (t:TA):TE:=λL H Q=>t L H λxs H1=>xs.length<=Â/\∀p,H1 p=Z->Q (.ref p) (cT H1 p (.lst xs))
def GK {x1}(h:PA X es t):PE X (.Tuple es x1 pos) (PB t):=by
 intro pins s L H Q I hq;refine wpAny_Tuple_spliced (cU (h pos pins s L H _ I hq) λus s1 ⟨xs,H1,I1,r,z,q⟩=>⟨by rw[<-r.length];exact z,?_⟩);have hf:=I1.hok.fresh (Ð _);refine⟨.ref _,cT H1 _ _,I1.laid (λb u e=>Ö _ e) (Ð _) ?_,rfl,q _ hf⟩;exact⟨z,us,r,⟨_,æ _ rfl,rfl,_,rfl⟩,_,æ _ rfl⟩
def GL (h:PA X es t):PE X (.List es pos) (Lj t):=by
 intro pins s L H Q I hq;refine wpAny_List_spliced (cU (h pos pins s L H _ I hq) λus s1 ⟨xs,H1,I1,r,z,q⟩=>⟨by rw[<-r.length];exact z,?_⟩);have hf:=I1.hok.fresh (Ð _);refine⟨.ref _,cT H1 _ _,I1.laid (λb u e=>Ö _ e) (Ð _) ?_,rfl,q _ hf⟩;exact⟨z,us,0,r,æ _ rfl⟩
end
abbrev Sp:=List V->Hp->VK->XK->Prop
abbrev CXT:=List Env->Hp->Ã->XK->F->Ã->Prop
structure Bz (P:ø)(w:ß)(K:Ê)(mg:Str->Option F)(base:Í)(A:Ñ)(outer:List Env)(s:Ã)(H:Hp):Prop where
 frames:A.frames=J outer
 mod:Mod K mg base
 bs:∀b o,base.get? b=J o->s.heap.get? b=J o/\H b=Z
 bsz:base.objs.size<=s.heap.objs.size
 funs:s.heap.FunFrames base outer
 frf:∀b∈EJ outer,H b=Z
 hok:pb P w H s.heap
 bare:AllBare s.gens
def CE (outer:List Env)(P:ø)(w:ß)(H:Hp)(s:Ã)(Q:VK)(u:F)(s':Ã):Prop:=
 ∃v H',s'.os=s.os/\AllBare s'.gens/\Un (EJ outer) [] H H' s.heap s'.heap/\pb P w H' s'.heap/\bE v u/\Q v H'
def CR (CX:CXT)(outer:List Env)(P:ø)(w:ß)(H:Hp)(s:Ã)(Q:VK)(E:XK)(r:Result)(s':Ã):Prop:=
 match r with
 | .ok (.ret u)=>CE outer P w H s Q u s'
 | .ok _=>False
 | .error e=>CX outer H s E e s'
structure fc (P:ø)(w:ß)(K:Ê)(mg:Str->Option F)(base:Í)(CX:CXT)(k:Nat)(f:G)(fd:ĭ)(ps:List Str)(sp:Sp):Prop where
 len:∀vs H Q E,sp vs H Q E->vs.length=ps.length
 run:∀(A:Ñ) (outer:List Env) (s:Ã) (H:Hp) (args:Args) (us:List F) (vs:List V) (Q:VK) (E:XK),cI k A->Bz P w K mg base A outer s H->BindsTo s fd args (ps.zip us)->bf vs us->sp vs H Q E->
  ĺ (Ä P w) A (.call (.ref f) args) (CR CX outer P w H s Q E) s
theorem fc.mono {base:Í}{CX:CXT}{sp:Sp}(F:fc P w K mg base CX j f fd ps sp)(h:j<=k) :
  fc P w K mg base CX k f fd ps sp:=⟨F.len,λA outer s H args us vs Q E hr=>F.run A _ s H args us vs Q E (hr.mono h)⟩
theorem fc.imp {base:Í}{CX:CXT}{sp Yv:Sp}(F:fc P w K mg base CX k f fd ps sp)(h:∀vs H Q E,Yv vs H Q E->sp vs H Q E):fc P w K mg base CX k f fd ps Yv:=
 ⟨λvs H Q E q=>F.len vs H Q E (h _ _ _ _ q),λA outer s H args us vs Q E hr he hb hv hs=>F.run A _ s H args us vs Q E hr he hb hv (h _ _ _ _ hs)⟩
def Bz.make {base:Í}{A:Ñ}{outer:List Env}(e:Bz P w K mg base A outer s H)(C:G)(us:List F)(kw:List (Str×F)) :
  Bz P w K mg base (A.under (.builtin "type.__call__" ⟨.ref C::us,kw⟩)) outer s H:=⟨by first|exact e.frames|(simpa [pushEnvs] using e.frames),e.mod,e.bs,e.bsz,e.funs,e.frf,e.hok,e.bare⟩
section
variable {s':Ã}
def aP.env0 (I:aP X pins L H s):Bz X.prog X.w X.K X.mg X.base X.A X.stack s H:=
 ⟨I.ok.frames,I.ok.mod,I.bs,ä I.ok.bsz I.sz,I.stack,I.stkFree,I.hok,I.bare⟩
theorem aP.after {Q:VK}{u:F}(I:aP X pins L H s)(h:CE X.stack X.prog X.w H s Q u s'):EP X pins L Q u s':=by
 obtain⟨v,H',os,bare,un,hok,r,q⟩:=h;obtain⟨hh,g,d,t,os'⟩:=s';obtain rfl:os'=s.os:=os;exact⟨v,H',I.call un hok bare (λb z=>absurd z (by simp)),r,q⟩
end
def GN (sp:Sp)(yL:List V)(E:XK)(t:TA):TE:=λL H Q=>t L H λvs H1=>sp (vs++yL) H1 Q E
def CQ (C:G)(m:Str)(sp:Sp)(yL:List V)(E:XK)(ta:TE)(t:TA):TE:=λL H Q=>ta L H λx H1=>∃a dx fs,x=.ref a/\H1 a=J (.ins C dx fs)/\fs.lookup m=Z/\
 t L H1 λvs H2=>sp (x::(vs++yL)) H2 Q E
def Nk (C:G)(sp:Sp)(yL:List V)(E:XK)(t:TA):TE:=λL H Q=>t L H λvs H1=>∀x dx,H1 x=Z->H1 dx=Z->dx≠x->
 sp (.ref x::(vs++yL)) (cT (cT H1 dx (.own x)) x (.ins C dx [])) (λv H2=>v=.non/\Q (.ref x) H2) E
def jj (K:Ê)(fd:ĭ)(ps:List Str)(ds:List F):Prop:=
 ∀(s:Ã) (us:List F),K.In s.heap->(us++ds).length=ps.length->BindsTo s fd ⟨us,[]⟩ (ps.zip (us++ds))
def jj.all (h:∀us:List F,us.length=ps.length->bindArgs fd ⟨us,[]⟩=pure (ps.zip us)):jj K fd ps []:=λs us _ hl=>by
 rw[ā] at hl |-;exact .of_eq (h us hl)
def mQ (CX:CXT)(X:Cx)(E:XK):Prop:=∀(pins:List (G×Obj)) (L:St) (H:Hp) (s:Ã) (e:F) (s':Ã),aP X pins L H s->CX X.stack H s E e s'->X.xe e s'
section
variable {CX:CXT}{sp:Sp}{yL:List V}{ds:List F}{E:XK}{m:Str}{p cO:Pos}{e o:É}{ta:TE}{t:TA}
theorem BA {Q:VK}{us:List ò}(F:fc X.prog X.w X.K X.mg X.base CX k f fd ps sp)(hr:cI k X.A)(hb:jj X.K fd ps ds)(hd:bf yL ds)(hx:mQ CX X E)(I:aP X pins L H s)(r:bf vs us)(h:sp (vs++yL) H Q E):Å (Ä X.prog X.w) X.A (call (.ref f) us) (EP X pins L Q) X.xe s:=by
 have r2:=r.append hd;have hl:(us++ds).length=ps.length:=by rw[<-r2.length];exact F.len _ _ _ _ h
 refine wpAny_call (ű (F.run X.A _ s H _ _ _ Q E hr I.env0 (hb s us I.kIn hl) r2 h) λr s' hq=>?_);cases r with
 |error e=>exact hx pins L H s e s' I hq
 |ok fl=>
  cases fl with
  |ret u=>exact I.after hq
  |next=>exact Ė hq
  |brk=>exact Ė hq
  |cont=>exact Ė hq
def Lk (F:fc X.prog X.w X.K X.mg X.base CX k f fd ps sp)(hr:cI k X.A)(hg:Gl X x)(hm:X.mg x=J (.ref f))(hk:Ń X.K (.ref f)=M)(hb:jj X.K fd ps ds)(hd:bf yL ds)(hx:mQ CX X E)
  (ha:PA X (e::es) t) (vW:(x==("__debug__":Str))=Y:=by decide) (he:Ç (e::es) X.env=(Y,Ì e X.env)::Ç es X.env:=by rfl) (jh:(ã pos (Ç es X.env)).any (·.1)=Y:=by rfl) :
  PE X (.Call (.Name x p) (e::es) [] pos) (GN sp yL E t):=by
 intro pins s L H Q I h;refine ϔ (lG I hg hm ?_ vW);refine afk I.ok.mod.kin hk (cU (ha pos pins s L H _ I h) λus s1 ⟨vs,H1,I1,r,q⟩=>⟨I1.kIn,?_⟩) he jh;exact BA F hr hb hd hx I1 r q
theorem CS (he:PE X o ta)(c:Bi X.K C)(hm:nI X.K C m f)(F:fc X.prog X.w X.K X.mg X.base CX k f fd ps sp)(hr:cI k X.A)(hb:jj X.K fd ps ds)(hd:bf yL ds)(hx:mQ CX X E)(ha:PA X (e::es) t)(gE:Ç (e::es) X.env=(Y,Ì e X.env)::Ç es X.env:=by rfl)(jh:(ã pos (Ç es X.env)).any (·.1)=Y:=by rfl)(ht:Ì (.Call (.Attribute o m cO) (e::es) [] pos) X.env=(do
   let ov ←Ì o X.env
   standAt cO.atName
   let (f,first) ←ę [ov] (ŝ ov m pl)
   callWith pos f first (ã pos (Ç (e::es) X.env)) (ĥ pos (ģ [] X.env))):=by rfl) :
  PE X (.Call (.Attribute o m cO) (e::es) [] pos) (CQ C m sp yL E ta t):=by
 intro pins s L H Q I h;refine PySem.W.methodCall_KW (cU (he pins s L H _ I h) λu s1 h00=>?_) ht;obtain⟨x,H1,I1,rx,a,dx,fs,ex,ea,l,q⟩:=h00;subst ex;obtain rfl:u=Value.ref a:=rx;refine sP I1 ea c hm l ?_;refine afk I.ok.mod.kin hm.kp (cU (ha pos pins s1 L H1 _ I1 q) λus s2 ⟨vs,H2,I2,r,q2⟩=>⟨I2.kIn,?_⟩) gE jh;exact BA (vs:=.ref a::vs) F hr hb hd hx I2 (.cons rfl r) q2
theorem y3 (he:PE X o ta)(c:Bi X.K C)(hm:nI X.K C m f)(F:fc X.prog X.w X.K X.mg X.base CX k f fd ps sp)(hr:cI k X.A)(hb:jj X.K fd ps ds)(hd:bf yL ds)(hx:mQ CX X E)(ht:Ì (.Call (.Attribute o m cO) [] [] pos) X.env=(do
   let ov ←Ì o X.env
   standAt cO.atName
   let (f,first) ←ę [ov] (ŝ ov m pl)
   callWith pos f first (ã pos (Ç [] X.env)) (ĥ pos (ģ [] X.env))):=by rfl) :
  PE X (.Call (.Attribute o m cO) [] [] pos) (CQ C m sp yL E ta g7):=by
 intro pins s L H Q I h;refine PySem.W.methodCall_KW (cU (he pins s L H _ I h) λu s1 h00=>?_) ht;obtain⟨x,H1,I1,rx,a,dx,fs,ex,ea,l,q⟩:=h00;subst ex;obtain rfl:u=Value.ref a:=rx;refine sP I1 ea c hm l ?_;exact PySem.W.callWith_K0 I1.kIn hm.kp (BA (vs:=[.ref a]) F hr hb hd hx I1 (.cons rfl .nil) q)
structure Mk (K:Ê)(C f:G):Prop where
 makes:PySem.W.makesIn K C=M
 init:ğ K (.ref C) "__init__"=J (J (.ref f))
 fn:ϊ K (.ref f)=M
 kp:Ń K (.ref C)=M
theorem GO {Q:VK}{us:List ò}(Mq:Mk X.K C f)(F:fc X.prog X.w X.K X.mg X.base CX k f fd ps sp)(hr:cI (k+1) X.A)(hb:jj X.K fd ps ds)(hd:bf yL ds)(hx:mQ CX X E)(I:aP X pins L H s)(r:bf vs us)(h:∀x dx,H x=Z->H dx=Z->dx≠x->sp (.ref x::(vs++yL)) (cT (cT H dx (.own x)) x (.ins C dx [])) (λv H2=>v=.non/\Q (.ref x) H2) E) :
  Å (Ä X.prog X.w) X.A (call (.ref C) us) (EP X pins L Q) X.xe s:=by
 have hq:=h _ _ (I.hok.fresh (Nat.le_succ _)) (I.hok.fresh (Ð _)) (è (δ _));have I2:=aP.made (C:=C) I;have r2:bf (V.ref (s.heap.objs.size+1)::(vs++yL)) _:=.cons rfl (r.append hd);have hl:=by
  have e:=r2.length;rw[F.len _ _ _ _ hq] at e;exact e.symm
 refine wpAny_call (GJ I.kIn Mq.makes Mq.init (beq_iff_eq.mp Mq.fn) (ű (F.run _ _ _ _ _ _ _ _ E (hr.make C us [])
  (I2.env0.make C us []) (hb _ _ I2.kIn hl) r2 hq) λr s' UX=>?_))
 cases r with
 |error e=>exact hx pins L _ _ e s' I2 UX
 |ok fl=>
  cases fl with
  |ret u=>
   obtain⟨v,H',I3,rv,ev,q3⟩:=I2.after UX;subst ev;exact⟨rv,⟨V.ref _,H',I3,rfl,q3⟩⟩
  |next=>exact Ė UX
  |brk=>exact Ė UX
  |cont=>exact Ė UX
def Ll (Mq:Mk X.K C f)(F:fc X.prog X.w X.K X.mg X.base CX k f fd ps sp)(hr:cI (k+1) X.A)(hg:Gl X x)(hm:X.mg x=J (.ref C))(hb:jj X.K fd ps ds)(hd:bf yL ds)(hx:mQ CX X E)
  (ha:PA X (e::es) t) (vW:(x==("__debug__":Str))=Y:=by decide) (he:Ç (e::es) X.env=(Y,Ì e X.env)::Ç es X.env:=by rfl) (jh:(ã pos (Ç es X.env)).any (·.1)=Y:=by rfl) :
  PE X (.Call (.Name x p) (e::es) [] pos) (Nk C sp yL E t):=by
 intro pins s L H Q I h;refine ϔ (lG I hg hm ?_ vW);refine afk I.ok.mod.kin Mq.kp (cU (ha pos pins s L H _ I h) λus s1 ⟨vs,H1,I1,r,q⟩=>⟨I1.kIn,?_⟩) he jh;exact GO Mq F hr hb hd hx I1 r q
end
section
variable {CX:CXT}{ks:List Str}{sp:Sp}{E:XK}{m:Str}{p cO kpos:Pos}{e o:É}{kws:List Ċ}{ta:TE}{t tk:TA}{nm:Option Str}
structure Wd (K:Ê)(fd:ĭ)(ps ks:List Str)(g:List F->List F->List F)(gV:List V->List V->List V):Prop where
 to:∀(s:Ã) (us ws:List F),K.In s.heap->(g us ws).length=ps.length->BindsTo s fd ⟨us,ks.zip ws⟩ (ps.zip (g us ws))
 rel:∀{vs:List V} {us:List F} {zs:List V} {ws:List F},bf vs us->bf zs ws->bf (gV vs zs) (g us ws)
variable {g:List F->List F->List F}{gV:List V->List V->List V}
end
structure az (N P:List Str)(sc:Ā):Prop where
 kind:sc.kind=.function
 co:sc.isCoroutine=Y
 gen:sc.isGenerator=Y
 nd:N.Nodup
 pre:N.take P.length=P
 par:∀x∈P,sc.names.lookup x=J .local\/sc.names.lookup x=J .cell
 nofree:∀y∈sc.names,y.2≠.free
theorem wc {â:Str->Option Ν}{x:Str}:∀{binds:List (Str×F)} {m:Str->Option F},(∀v,(x,v)∉binds)->bindL â binds m x=m x
 | [],_,_=>rfl
 | (n,v)::r,m,h=>by
  unfold bindL;rw[wc λw hw=>h w (Ý _ hw)];split
  ·have:x≠n:=by rintro rfl;exact h v Ú
   simp[this]
  ·rfl
theorem wd {â:Str->Option Ν}{x:Str}:∀{binds:List (Str×F)} {m:Str->Option F},(∀v,(x,v)∉binds)->bindC â binds m x=m x
 | [],_,_=>rfl
 | (n,v)::r,m,h=>by
  unfold bindC;rw[wd λw hw=>h w (Ý _ hw)];split
  ·rfl
  ·have:x≠n:=by rintro rfl;exact h v Ú
   simp[this]
theorem we {â:Str->Option Ν}{x:Str}{v:F}:∀{P:List Str} {vs:List F} {i:Nat} {m:Str->Option F},P.Nodup->P[i]? = J x->vs[i]? = J v->â x=J .local->
  bindL â (P.zip vs) m x=J v
 | [],_,_,_,_,h,_,_=>by simp at h
 |_::_,[],_,_,_,_,h,_=>by simp at h
 |p::P,w::vs,0,m,nd,h1,h2,hk=>by
  simp at h1 h2;subst h1;subst h2;show bindL _ ((p,w)::P.zip vs) m p=_;unfold bindL;rw[wc λv hv=>(Ť.mp nd).1 (σ hv).1,hV hk];simp
 |p::P,w::vs,i+1,m,nd,h1,h2,hk=>by
  unfold bindL;exact we (Ť.mp nd).2 (by simpa using h1) (by simpa using h2) hk
theorem wg {â:Str->Option Ν}{x:Str}{v:F}:∀{P:List Str} {vs:List F} {i:Nat} {m:Str->Option F},P.Nodup->P[i]? = J x->vs[i]? = J v->â x≠J .local->
  bindC â (P.zip vs) m x=J v
 | [],_,_,_,_,h,_,_=>by simp at h
 |_::_,[],_,_,_,_,h,_=>by simp at h
 |p::P,w::vs,0,m,nd,h1,h2,hk=>by
  simp at h1 h2;subst h1;subst h2;show bindC _ ((p,w)::P.zip vs) m p=_;unfold bindC;rw[wd λv hv=>(Ť.mp nd).1 (σ hv).1,hU hk];simp
 |p::P,w::vs,i+1,m,nd,h1,h2,hk=>by
  unfold bindC;exact wg (Ť.mp nd).2 (by simpa using h1) (by simpa using h2) hk
noncomputable def ô (N:List Str)(vs:List V):St:=vs.map J++List.replicate (N.length-vs.length) Z
noncomputable def eZ (CX:CXT)(P:ø)(w:ß)(K:Ê)(mg:Str->Option F)(base:Í)(N:List Str)(qual:Str)(scope:Ā)(f:G)(cd:F)(A:Ñ)(outer:List Env)(s:Ã)(H:Hp)(E:XK):Cx where
 prog:=P
 w:=w
 K:=K
 mg:=mg
 base:=base
 A:=A.deeper (Ć qual scope s.heap.objs.size f cd)
 N:=N
 s₀:=s
 H₀:=H
 env:=Ć qual scope s.heap.objs.size f cd
 outer:=outer
 stack:=Ć qual scope s.heap.objs.size f cd::outer
 ex:=[]
 calm:=M
 fn:=λ_=>M
 pn:=[]
 xe:=λe s'=>Å (Ä P w) (A.deeper (Ć qual scope s.heap.objs.size f cd)) (leaving (Ć qual scope s.heap.objs.size f cd) e) (λ_ RQ=>CX outer H s E e RQ) (λe' RQ=>CX outer H s E e' RQ) s'
def y4 {sc:Ā}{n:Nat}(h:sc.names.lookup x=J .cell):∃c,(Ĥ n sc.names []).lookup x=J c:=by
 have q:=aep _ n [] (.inl h);exact Option.isSome_iff_exists.mp q
theorem wj {CX:CXT}{base:Í}{cd:F}{A:Ñ}{outer:List Env}{s1:Ã}{E:XK}{us:List F}(S:az N ps scope)(hd:A.handled=Z)(e0:Bz P w K mg base A outer s H)(hl:vs.length=ps.length)(r:bf vs us)(x:InCallC s s.heap.objs.size (bindL (Ć qual scope s.heap.objs.size f cd).kindOf (ps.zip us) λ_=>Z) (Ĥ (s.heap.objs.size+1) scope.names []) (bindC (Ć qual scope s.heap.objs.size f cd).kindOf (ps.zip us) λ_=>Z) s1) :
  aP (eZ CX P w K mg base N qual scope f cd A outer s H E) [] (ô N vs) H s1:=by
 have jh:ps.length<=N.length:=by have:=congrArg ť S.pre;rw[ÿ] at this;lia
 obtain⟨h1,tk,rfl,hk⟩:=x.done;have UY:∀b ,b∉(eZ CX P w K mg base N qual scope f cd A outer s H E).ex:=λb z=>absurd (show b∈([]:List G) from z) (by simp);refine⟨⟨e0.mod,S.kind,rfl,rfl,Ð _,λy z c h1 h2=>?_,λy hy=>?_,λy c _ h=>?_,λ_=>hd,Around.frames_deeper e0.frames,.inr ⟨rfl,rfl⟩,λb z=>absurd z (UY b),e0.bs,e0.bsz,λb _ _=>UY b,λb z=>absurd z (UY b),e0.funs,e0.frf⟩,
  rfl,e0.bare,Un.kept hk,⟨_,x.toInCall.ns,λi y v h1 h2 h3=>?_⟩,λy c h=>⟨_,x.cell y c h⟩,e0.hok.fresh (Ð _),λy c h=>?_,λp hp=>absurd (show p∈([]:List _) from hp) (by simp),e0.hok.kept hk,?_⟩
 ·exact name_of_addr x.apart (ŗ h1) (ŗ h2)
 ·rcases hy with hy|hy
  ·exact y4 hy
  ·exact absurd rfl (S.nofree _ (ŗ hy))
 ·exact ό (x.above y c (ŗ h))
 ·have hi:i<vs.length:=by
   unfold ô at h2;by_cases hi:i<vs.length
   ·exact hi
   ·rw[Š (by simpa using hi)] at h2;rw[List.getElem?_replicate] at h2;split at h2<;>cases h2
  have ha:vs[i]? = J v:=by
   unfold ô at h2;rw[Ŵ (by simpa using hi),ă] at h2;cases e:vs[i]? with
   |none=>rw[e] at h2;cases h2
   |some a=>rw[e] at h2;cases h2;rfl
  obtain⟨u,hu,rv⟩:=r.get ha;have hp:ps[i]? = J y:=by
   rw[<-S.pre,afy (by simp_all)];exact h1
  have Yw:ps.Nodup:=by rw[<-S.pre];exact S.nd.sublist (List.take_sublist _ _)
  refine⟨u,rv,?_⟩;rcases S.par y (į hp) with k|k
  ·exact .inl ⟨k,we Yw hp hu k⟩
  ·obtain⟨c,e⟩:=y4 k;refine .inr ⟨.inl k,c,e,?_⟩;have q:=x.cell y c e;rw[wg Yw hp hu (by show scope.names.lookup y≠_;rw[k];decide)] at q;exact q
 ·exact e0.hok.fresh (ό (x.above y c (ŗ h)))
 ·unfold ô;show _=N.length;simp[*]
theorem S9 {CX:CXT}{base:Í}{name:Str}{params:Arguments}{dV kV ku pm bT ct oc:F}{sp:Sp}(lk:K.lookup f=J ⟨oc,od,.func (Ĉ name qual params body scope dV kV ku pm an bT ct),osl⟩)(iQ:ż K bT qual=M)(S:az N ps scope)(len:∀vs H Q E,sp vs H Q E->vs.length=ps.length)(dZ:∀(A:Ñ) (outer:List Env) (s:Ã) (H:Hp) (vs:List V) (Q:VK) (E:XK),cI k (A.deeper (Ć qual scope s.heap.objs.size f bT))->sp vs H Q E->
   ∃t,vy (eZ CX P w K mg base N qual scope f bT A outer s H E) body t/\t {nx:=λ_ H'=>Q .non H',rt:=Q} (ô N vs) H) :
  fc P w K mg base CX (k+1) f (Ĉ name qual params body scope dV kV ku pm an bT ct) ps sp:=by
 refine⟨len,λA outer s H args us vs Q E hr e0 hb r Gd=>?_⟩;have hl:=len _ _ _ _ Gd;have KX:=e0.mod.kin.keeps λb o e=>(e0.bs b o e).1;have Xi:=e0.mod.nolimit.keeps λb o e=>(e0.bs b o e).1;have Bf:∀y∈ps.zip us,scope.names.lookup y.1=J _\/(scope.names.lookup y.1=J _/\((Ĥ (s.heap.objs.size+1) _ []).lookup y.1).isSome=M):=fun⟨n,v⟩ hy=>by
  rcases S.par n (σ hy).1 with q|q
  ·exact .inl q
  ·exact .inr ⟨q,aep _ _ _ (.inl q)⟩
 refine codeAny_call_function hr.depth (KX _ _ lk) rfl S.co S.gen rfl (PySem.W.codeRec_of KX iQ) (hb _ _ _ _ ?_);refine wpAny_newFunctionEnv_cells S.kind Bf λenv he s1 x=>?_;subst he;refine⟨Xi.keeps x.toInCall.keep,codeAny_func ?_⟩;obtain⟨t,ht,hq⟩:=dZ A _ s H vs Q E (hr.deeper _) Gd;have I:aP (eZ CX P w K mg base N qual _ f bT A _ s H E) [] _ H s1:=wj S hr.hd e0 hl r x;refine ù (ht [] s1 _ H _ I hq) (λfl s' hs=>?_) λe s' hs=>hs;have fin:∀{L':St} {H':Hp} {v:V} {u:F},aP (eZ CX P w K mg base N qual scope f bT A _ s H E) [] L' H' s'->bE v u->Q v H'->CE outer P w H s Q u s' :=
  λ{L' H' v u} Jq rv q=>⟨v,H',Jq.os,Jq.bare,Jq.base,Jq.hok,rv,q⟩
 cases fl with
 |ret u=>
  obtain⟨v,L',H',Jq,rv,q⟩:=hs;exact fin Jq rv q
 |next=>
  obtain⟨L',H',Jq,q⟩:=hs;exact fin (v:=V.non) Jq rfl q
 |brk=>
  obtain⟨_,_,_,q⟩:=hs;exact Ė q
 |cont=>
  obtain⟨_,_,_,q⟩:=hs;exact Ė q
end L2
variable {CX:L2.CXT}{sp:L2.Sp}
namespace L2
section
variable {p:Pos}{e:É}{t:TA}{id T:String}{r:List V->Hp->VK->Prop}
def PD (r:List V->Hp->VK->Prop)(t:TA):TE:=λL H Q=>t L H λvs H1=>r vs H1 Q
def jk (hc:eh X (.builtin id) r)(hg:Gl X x)(hm:X.mg x=Z)(hv:þ x=J (.builtin id))(ha:PA X (e::es) t)(hn:x≠"__name__":=by decide)(vW:(x==("__debug__":Str))=Y:=by decide)
  (he:Ç (e::es) X.env=(Y,Ì e X.env)::Ç es X.env:=by rfl) (jh:(ã pos (Ç es X.env)).any (·.1)=Y:=by rfl):PE X (.Call (.Name x p) (e::es) [] pos) (PD r t):=by
 intro pins s L H Q I h;refine ϔ (sM I hg hm hv ?_ hn vW);exact PyProof.Rows.callWith_builtin1 (cU (ha pos pins s L H _ I h) λus s1 ⟨vs,H1,I1,r1,q1⟩=>hc pins s1 L H1 vs us Q I1 r1 q1) he jh
def eP (hc:eh X (.type T) r)(hg:Gl X x)(hm:X.mg x=Z)(hv:þ x=J (.type T))(ha:PA X (e::es) t)(hn:x≠"__name__":=by decide)(vW:(x==("__debug__":Str))=Y:=by decide)
  (he:Ç (e::es) X.env=(Y,Ì e X.env)::Ç es X.env:=by rfl) (jh:(ã pos (Ç es X.env)).any (·.1)=Y:=by rfl):PE X (.Call (.Name x p) (e::es) [] pos) (PD r t):=by
 intro pins s L H Q I h;refine ϔ (sM I hg hm hv ?_ hn vW);exact adF (cU (ha pos pins s L H _ I h) λus s1 ⟨vs,H1,I1,r1,q1⟩=>hc pins s1 L H1 vs us Q I1 r1 q1) he jh
end
end L2
namespace HT
noncomputable def lexLt:List Int->List Int->Bool
 | [],[]=>Y
 | [],_::_=>M
 |_::_,[]=>Y
 |x::xs,y::ys=>if x=y then lexLt xs ys else decide (x<y)
def lexLt_cons (x y:Int)(xs ys:List Int):lexLt (x::xs) (y::ys)=if x=y then lexLt xs ys else decide (x<y):=rfl
def GP (A:Ñ)(s:Ã)(a:Int)(t:Tok)(c:Int)(u:Tok):∃e,ŉ A s (.int a t) (.int c u) e/\(e=M↔a=c):=
 ⟨(a==c),SeqAt.EqAt.int_int a t c u,by simp⟩
def GQ (A:Ñ)(s:Ã)(a:Int)(t:Tok)(c:Int)(u:Tok)(prog:ø)(w:ß)(E:F->Ã->Prop)(Q:F->Ã->Prop)(h:Q (.bool (decide (a<c))) s) :
  Å (Ä prog w) A (richCompare .Lt (.int a t) (.int c u)) Q E s:=
 (PyProof.Rows.lt_int h:Å _ A _ Q E s)
section
open PySem.SeqAt
open PySem.AutoSeq1 (wpAny_loadPart')
open PySem.MeetsSeq PySem.MeetsSeq2 PySem.MeetsSeq3
theorem vz (l b:G)(bP j3:Array F)(n n2:Nat)(dd O2:Option G)(sl O3:Array (Option F))(ns ms:List Int)(hi:ý bP.toList ns)(hj:ý j3.toList ms) :
  Meets (Builtin.«tuple.__lt__» ⟨[.ref l,.ref b],[]⟩)
   (λ_ R s=>s.heap.get? l=J {cls:=.type "tuple",dict:=dd,data:=.seq bP n,slots:=sl}/\s.heap.get? b=J {cls:=.type "tuple",dict:=O2,data:=.seq j3 n2,slots:=O3} /\
    R (.ok (.ret (.bool (lexLt ns ms)))) s):=
 .of_wp λprog w A R s h=>by
  obtain⟨hp,g,d,tk,os⟩:=s;obtain⟨hl,hb,h⟩:=h;have f2:=AutoSeq1.sub_tuple_tuple;have z1:bP.size=ns.length:=by rw[<-hi.length];simp
  have z2:j3.size=ms.length:=by rw[<-hj.length];simp
  wp_walk using wpAny_loadPart' hl,wpAny_loadPart' hb,wpAny_forIn_list _ (λrest b s'=>b.1=Z/\s'=⟨hp,g,d,tk,os⟩/\∃(vs ws:List F) (vx ms':List Int),rest=vs.zip ws/\
   ý vs vx/\ý ws ms'/\vx.length+j3.size=ms'.length+bP.size/\R (.ok (.ret (.bool (lexLt vx ms')))) ⟨hp,g,d,tk,os⟩) _
  case turn=>
   rintro⟨y,x⟩ rest b s' ⟨Gf,rfl,vs,ws,vx,ms',hz,hvi,hwi,ef,hR⟩;cases hvi with
   |nil=>cases hz
   |cons a t hvi'=>
    cases hwi with
    |nil=>cases hz
    |cons c u hwi'=>
     injection hz with hyx hrest
     injection hyx with hy hx
     subst hy hx;rw[lexLt_cons] at hR;simp only[Ò] at ef;obtain⟨e,he,hiff⟩:=GP A.in1 _ a t c u;refine À (he prog w _ _ ?_);cases e with
     |true=>
      rw[hV (hiff.mp rfl)] at hR;wp_walk;exact⟨rfl,rfl,_,_,_,_,hrest,hvi',hwi',by lia,hR⟩
     |false=>
      rw[hU (λq=>absurd (hiff.mpr q) ü)] at hR;have Zf:=GQ A.in1 ⟨hp,g,d,tk,os⟩ a t c u prog w;wp_walk using Zf;exact⟨_,rfl,by simpa using hR⟩
  case fin=>
   rintro⟨b1,b2⟩ s' ⟨Gf,rfl,vs,ws,vx,ms',hz,hvi,hwi,ef,hR⟩;subst Gf;have hv:lexLt vx ms'=decide (bP.size<j3.size):=by
    cases hvi with
    |nil=>
     cases hwi with
     |nil=>
      exact (hJ (by lia)).symm
     |cons c u hw=>
      simp only[š,Ò] at ef;exact (hG (by simp_all)).symm
    |cons a t hv=>
     cases hwi with
     |nil=>
      simp only[š] at ef;exact (hJ (by lia)).symm
     |cons c u hw=>
      cases hz
   rw[hv] at hR;wp_walk;exact⟨_,rfl,by simpa [Builtin.Tuple.tupleCompareSizes] using hR⟩
  case h=>
   exact⟨rfl,rfl,bP.toList,j3.toList,ns,ms,rfl,hi,hj,by lia,h⟩
end
section
variable {A:Ñ}
theorem lt_tupInts {l:G}{j3:Array F}{ms:List Int}(hl:IsTup s.heap l bP)(hb:IsTup s.heap b j3)(hi:ý bP.toList ns)(hj:ý j3.toList ms)(hu:A.units<î)(h:Q (.bool (lexLt ns ms)) s):Å (Ä prog w) A (ú .Lt (.ref l) (.ref b)) Q E s:=by
 obtain⟨⟨cls,dd,data,sl⟩,ho,hc,n,hd⟩:=id hl;obtain⟨⟨cls2,O2,data2,O3⟩,ho2,hc2,n2,hd2⟩:=id hb;subst hc hd hc2 hd2;exact richCompare_meets_room (op:=.Lt) ⟨_,ho,rfl⟩ ⟨_,ho2,rfl⟩ PySem.F.slot_tuple_lt PySem.F.entry_tuple_lt (PySem.F.args_tuple_lt_2 _ _) (vz l b _ _ n n2 dd O2 sl O3 ns ms hi hj)
  ⟨ho,ho2,⟨(λx=>nomatch x),h⟩⟩ hu
theorem cat_tup {t:G}{vs ws:List F}(ht:IsTup s.heap t vs.toArray)(hb:IsTup s.heap b ws.toArray)(hv:vs≠[])(h1:ws=[]->Q (.ref t) s)(h2:ws≠[]->Q (.ref s.heap.objs.size) {s with heap:=s.heap.push {cls:=.type "tuple",data:=.seq (vs++ws).toArray}})(hsz:vs.length+ws.length<=Â):Å (Ä prog w) A (Ę .Add (.ref t) (.ref b)) Q E s:=by
 obtain⟨⟨cls,dd,data,sl⟩,ho,hc,n,hd⟩:=id ht;obtain⟨⟨cls2,O2,data2,O3⟩,ho2,hc2,n2,hd2⟩:=id hb;subst hc hd hc2 hd2;have e:vs.toArray++ws.toArray=(vs++ws).toArray:=by simp
 by_cases hw:ws=[]
 ·exact concat_meets ⟨_,ho,rfl⟩ ⟨_,ho2,rfl⟩ noFill_tuple_add seq_tuple_add aeq aef (ad3 _ _)
   (tuple_addW1 t b _ _ n n2 dd O2 sl O3 (by simpa using hv) (by simp[hw])) ⟨ho,ho2,h1 hw⟩
 ·refine concat_meets ⟨_,ho,rfl⟩ ⟨_,ho2,rfl⟩ noFill_tuple_add seq_tuple_add aeq aef (ad3 _ _)
   (tuple_addW2 t b _ _ n n2 dd O2 sl O3 (by simpa using hv) (by simpa using hw) (by exact hsz)) ⟨ho,ho2,?_⟩
  rw[e];exact h2 hw
noncomputable def sIx (n d:Nat):Option Int->Nat
 |none=>d
 |some v=>if v<0 then (v+(n:Int)).toNat else min v.toNat n
def sIx_none (n d:Nat):sIx n d Z=d:=rfl
theorem sIx_nat (n d k:Nat):sIx n d (J (k:Int))=min k n:=by
 rfl
theorem CT (v:Int)(n d:Nat):(if v<0 then max (v+(n:Int)) 0 else min v (n:Int))=((sIx n d (J v):Nat):Int):=by
 show (if v<0 then max _ 0 else min v _)=(((if v<0 then (v+(n:Int)).toNat else min _ n):Nat):Int);by_cases hv:v<0
 ·simp only[hV hv];lia
 ·simp only[hU hv];(simp at *;lia)
theorem BB (lo hi:Option Int)(n:Nat):adQ lo hi 1 (n:Int)=(((sIx n 0 lo:Nat):Int),((sIx n n hi:Nat):Int)):=by
 have h1:=by omega
 unfold adQ;refine Ŋ ?_ ?_
 ·cases lo with
  |none=>rfl
  |some v=>exact CT v n 0
 ·cases hi with
  |none=>rfl
  |some v=>exact CT v n n
theorem BC (i j:Nat):adR (i:Int) (j:Int) 1=j-i:=by
 unfold adR;have h1:(1:Int)>0:=by lia
 simp only[h1,if_true,Int.ediv_one];split<;>lia
theorem sQ {v:F}{o:Option Int}{Q:Option Int->Ã->Prop}(p:IsPart v o)(h:Q o s):Å (Ä prog w) A (Builtin.Slice.slicePartIndex v) Q E s:=by
 cases p with
 |none=>exact slicePart_none h
 |int i t=>exact slicePart_int h
theorem jl {sl:G}{vl vu:F}{lo hi:Option Int}{n:Nat}{Q:Int×Int×Nat->Ã->Prop}(hs:s.heap.IsSliceOf sl vl vu .none)(pl:IsPart vl lo)(pu:IsPart vu hi)
  (h:Q (((sIx n 0 lo:Nat):Int),1,sIx n n hi-sIx n 0 lo) s):Å (Ä prog w) A (Builtin.Slice.sliceApplied (.ref sl) (pure (n:Int))) Q E s:=by
 obtain⟨os,K5,hcs,hds⟩:=id hs;refine À (À (ė K5 hds rfl (À (ė K5 hds rfl (À (ė K5 hds rfl (Ë ?_)))))));refine À (slicePart_none ?_);refine À (sQ pl (À (sQ pu (À (Ë ?_)))));show Å _ _ (match adQ lo hi 1 _ with|(lo,hi)=>pure (lo,(1:Int),adR lo hi 1)) _ _ s;rw[BB lo hi n];show Å _ _ (pure _) _ _ s;rw[BC];exact Ë h
theorem GR (xs:Array F)(i k:Nat):((ê k).filterMap λ(m:Nat)=>xs[((i:Int)+(m:Int)*1).toNat]?).toArray=((xs.toList.drop i).take k).toArray:=by
 have e:(λ(m:Nat)=>xs[((i:Int)+(m:Int)*1).toNat]?)=λm=>xs[i+m]? := by
  grind
 rw[e];have:=pick_run xs i k;rw[List.filterMap_map] at this;have e2:((λx=>xs[x]?)∘λx=>i+x)=λm=>xs[i+m]? := rfl;rw[e2] at this;rw[this]
theorem getItem_tuple_cut {t sl:G}{vl vu:F}{lo hi:Option Int}(ht:IsTup s.heap t bP)(hs:s.heap.IsSliceOf sl vl vu .none)(pl:IsPart vl lo)(pu:IsPart vu hi)(hw:¬(sIx bP.size 0 lo=0/\sIx bP.size bP.size hi=bP.size))(h:Q (.ref s.heap.objs.size) {s with heap:=s.heap.push {cls:=.type "tuple",data:=.seq ((bP.toList.drop (sIx bP.size 0 lo)).take (sIx bP.size bP.size hi-sIx bP.size 0 lo)).toArray}})(hsz:bP.size<=Â):Å (Ä prog w) A (getItem (.ref t) (.ref sl)) Q E s:=by
 have UZ:=by
  show ((bP.toList.drop (sIx bP.size 0 lo)).take (sIx bP.size bP.size hi-sIx bP.size 0 lo)).toArray.size<=Â;rw[ë,ÿ,ē,í];omega
 obtain⟨os,K5,hcs,hds⟩:=id hs;have Xj:s.TypeIs (.ref sl) _:=⟨os,K5,hcs⟩;unfold getItem
 try with_reducible refine Ģ ?_
 refine À (wpAny_sequenceKey ht.typeIs (by decide) ?_);refine À (Ř ht.typeIs ϱ
  (Ī ϱ ht.typeIs entry_tuple_getitem ?_ (args_tuple_getitem _ _)))
 show Å _ _ (afb _ >>= _) _ _ s;refine À (tupleItemsOf_ ht ?_);refine À (Κ Xj ?_);refine À (jl hs pl pu ?_);have Zg:¬((((sIx bP.size 0 lo:Nat):Int)==0&&(1:Int)==1&&(sIx bP.size bP.size hi-sIx bP.size 0 lo)==bP.size)=M):=by
  simp_all
 show Å _ _ (if (((sIx _ 0 lo:Nat):Int)==0&&(1:Int)==1&&(sIx _ _ hi-sIx _ 0 lo)==bP.size)=M then _ else _) _ _ s;rw[hU Zg,GR]
 first
  |exact À (ř (Ë ⟨_,rfl,Ë h⟩) UZ)
  |exact À _
  |exact À _
  |exact À _
end
end HT
namespace L2
abbrev TO:=St->Hp->(Option Int->Hp->Prop)->Prop
def PO (X:Cx)(e:Option É)(t:TO):Prop:=
 ∀(pins:List (G×Obj)) (s:Ã) (L:St) (H:Hp) (Q:Option Int->Hp->Prop),aP X pins L H s->t L H Q->
  Å (Ä X.prog X.w) X.A (evalPart e X.env) (λu s'=>∃o H',aP X pins L H' s'/\IsPart u o/\Q o H') X.xe s
def Lm:TO:=λ_ H Q=>Q Z H
def S_ (t:TE):TO:=λL H Q=>t L H λx H1=>∃i,x=.int i/\Q (J i) H1
theorem dh:∀{us:List F},bf (ns.map V.int) us->ý us ns:=by
 induction ns with
 |nil=>intro us r;cases r;exact .nil
 |cons n ns ih=>
  intro us r;cases r with
  |cons r1 r2=>
   obtain⟨t,e⟩:=r1;subst e;exact .cons n t (ih r2)
section
variable {e:É}{lo hi:Option É}{tl th:TO}
def Ln:PO X Z Lm:=by
 intro pins s L H Q I h;exact Ë ⟨Z,H,I,.none,h⟩
theorem Lo (h:PE X e te):PO X (J e) (S_ te):=by
 intro pins s L H Q I hw;refine cU (h pins s L H _ I hw) λu s1 h00=>?_;obtain⟨x,H1,I1,r1,q1⟩:=h00;obtain⟨i,rfl,q⟩:=q1;obtain⟨t,rfl⟩:=r1;exact⟨J i,H1,I1,.int i t,q⟩
def GU (X:Cx)(r:V->Option Int->Option Int->Hp->VK->Prop):Prop:=
 ∀(pins:List (G×Obj)) (s:Ã) (L:St) (H:Hp) (x:V) (v vl vu:F) (lo hi:Option Int) (sl:G) (Q:VK),aP X pins L H s->bE x v->s.heap.IsSliceOf sl vl vu .none->IsPart vl lo->IsPart vu hi->r x lo hi H Q->
  ∃T id,typeLookup (.type T) "__getitem__"=pure (J (.builtin id))/\s.TypeIs v T/\Å (Ä X.prog X.w) X.A (getItem v (.ref sl)) (EP X pins L Q) X.xe s
theorem GU.or {r r':V->Option Int->Option Int->Hp->VK->Prop}(h:GU X r)(h':GU X r'):GU X (λx lo hi H Q=>r x lo hi H Q\/r' x lo hi H Q):=by
 intro pins s L H x v vl vu lo hi sl Q I rx hs pl pu q;rcases q with q|q
 ·exact h pins s L H x v vl vu lo hi sl Q I rx hs pl pu q
 ·exact h' pins s L H x v vl vu lo hi sl Q I rx hs pl pu q
def YW (r:V->Option Int->Option Int->Hp->VK->Prop)(te:TE)(tl th:TO):TE:=λL H Q=>te L H λx H1=>tl L H1 λl H2=>th L H2 λu H3=>r x l u H3 Q
theorem GV {r:V->Option Int->Option Int->Hp->VK->Prop}(hr:GU X r)(he:PE X e te)(hl:PO X lo tl)(hu:PO X hi th):PE X (.Subscript e (.Slice lo hi Z p2) pos) (YW r te tl th):=by
 intro pins s L H Q I h;refine Subscript_ (cU (he pins s L H _ I h) λv s1 h00=>?_);obtain⟨x,H1,I1,r1,q1⟩:=h00;refine wpAny_Slice (cU (hl pins s1 L H1 _ I1 q1) λvl s2 ⟨l,H2,I2,pl,q2⟩=>cU (hu pins s2 L H2 _ I2 q2) λvu s3 h00=>?_);obtain⟨u,H3,I3,pu,q3⟩:=h00;refine Ë ?_;have I4:aP X pins L H3 {s3 with heap:=s3.heap.push {cls:=.type "slice",data:=.fields #[vl,vu,.none]}}:=I3.kept λb ob q=>Ö _ q;obtain⟨T,id,hT,ht,hg⟩:=hr pins _ L H3 x v vl vu l u _ Q I4 r1 (Heap.IsSliceOf.new ..) pl pu q3;exact tail_any ht hT hg (by rfl)
noncomputable def xu (xs:List V)(lo hi:Option Int):List V:=(xs.drop (HT.sIx xs.length 0 lo)).take (HT.sIx xs.length xs.length hi-HT.sIx xs.length 0 lo)
theorem qj (xs:List V)(lo hi:Option Int):(xu xs lo hi).length<=xs.length:=by
 unfold xu;rw[ÿ,ē];lia
def We (K:Ê):V->Option Int->Option Int->Hp->VK->Prop:=λx lo hi H Q=>∃a xs,x=.ref a/\fE K H a xs/\
 ¬(HT.sIx xs.length 0 lo=0/\HT.sIx xs.length xs.length hi=xs.length)/\∀p,H p=Z->Q (.ref p) (cT H p (.tup (xu xs lo hi)))
theorem PF:GU X (We X.K):=by
 intro pins s L H x v vl vu lo hi sl Q I rx hs pl pu h;obtain⟨a,xs,rfl,hx,hw,q⟩:=h;cases rx;obtain⟨its,r,ht,hz⟩:=I.tuple hx;have ef:its.toArray.size=xs.length:=by exact r.length.symm
 refine⟨"tuple",_,PyProof.Rows.slot_tuple_getitem.lookup,ht.typeIs,?_⟩;refine HT.getItem_tuple_cut ht hs pl pu (by rw[ef];exact hw) ?_ (by rw[ef];exact hz);rw[ef];refine⟨.ref _,_,I.laid (λb ob q=>Ö _ q) (Ð _) ?_,rfl,q _ (I.hok.fresh (Ð _))⟩;exact⟨ä (qj xs lo hi) hz,_,(r.drop _).take _,IsTup.new _ _,_,æ _ rfl⟩
def PH (K:Ê):R2:=λx y H Q=>∃a b ns ms,x=.ref a/\y=.ref b/\fE K H a (ns.map V.int)/\fE K H b (ms.map V.int)/\Q (.bl (HT.lexLt ns ms)) H
theorem PJ (hu:X.A.units<î):iL X (ú .Lt) (PH X.K):=by
 intro pins s L H x y v u Q I rx ry h;obtain⟨a,b,ns,ms,rfl,rfl,ha,hb,q⟩:=h;cases rx;cases ry;obtain⟨its,r1,p1,_⟩:=I.tuple ha;obtain⟨its2,r2,p2,_⟩:=I.tuple hb;have i1:=dh r1;have i2:=dh r2;exact HT.lt_tupInts p1 p2 i1 i2 hu ⟨.bl _,H,I,rfl,q⟩
def Ta (K:Ê):R2:=λx y H Q=>∃a b xs ys,x=.ref a/\y=.ref b/\fE K H a xs/\fE K H b ys/\xs≠[]/\xs.length+ys.length<=Â/\
 (ys=[]->Q (.ref a) H)/\(ys≠[]->∀p,H p=Z->Q (.ref p) (cT H p (.tup (xs++ys))))
theorem bf.nil_iff {us:List F}(r:bf xs us):us=[]↔xs=[]:=by
 cases r with
 |nil=>simp
 |cons _ _=>simp
theorem Lp:iL X (Ę .Add) (Ta X.K):=by
 intro pins s L H x y v u Q I rx ry h;obtain⟨a,b,xs,ys,rfl,rfl,ha,hb,hx,hz,q1,q2⟩:=h;cases rx;cases ry;obtain⟨its,r1,p1,_⟩:=I.tuple ha;obtain⟨its2,r2,p2,_⟩:=I.tuple hb;refine HT.cat_tup p1 p2 (λz=>hx (r1.nil_iff.mp z)) (λz=>⟨.ref a,H,I,rfl,q1 (r2.nil_iff.mp z)⟩) (λz=>?_) (by rw[<-r1.length,<-r2.length];exact hz);refine⟨.ref _,_,I.laid (λb ob q=>Ö _ q) (Ð _) ?_,rfl,q2 (λw=>z (r2.nil_iff.mpr w)) _ (I.hok.fresh (Ð _))⟩;exact⟨by rw[Þ];exact hz,_,r1.append r2,IsTup.new _ _,_,æ _ rfl⟩
end
end L2
namespace L2
noncomputable def EV (n:Nat)(i:Int):Option Nat:=if 0<=i then (if i<n then J i.toNat else Z) else if -(n:Int)<=i then J (i+n).toNat else Z
def kz {α:Type}(xs:List α)(i:Int):Option α:=(EV xs.length i).bind λj=>xs[j]?
theorem CU {n:Nat}{i:Int}(h:EV n i=J j):ų i n=J j/\j<n/\ -(n:Int)<=i/\i<n:=by
 unfold EV at h;by_cases h0:0<=i
 ·rw[hV h0] at h;by_cases h1:i<n
  ·rw[hV h1] at h;have e:=ó h;exact⟨by rw[seqIndex_of h0 h1,e],by lia,by lia,h1⟩
  ·rw[hU h1] at h;cases h
 ·rw[hU h0] at h;by_cases h1 : -(n:Int)<=i
  ·rw[hV h1] at h;grind[ó,seqIndex_neg]
  ·rw[hU h1] at h;cases h
theorem xv {α:Type}{xs:List α}{i:Int}{v:α}(h:kz xs i=J v):∃j,ų i xs.length=J j/\xs[j]? = J v/\j<xs.length/\ -(xs.length:Int)<=i/\i<xs.length:=by
 unfold kz at h;cases e:EV _ i with
 |none=>rw[e] at h;cases h
 |some j=>
  rw[e] at h;obtain⟨h1,h2,h3,h4⟩:=CU e;exact⟨j,h1,h,h2,h3,h4⟩
def xw (b:É):Prop:=∀o i,subscripted b Y o i=operate [o,i] (getItem o i)
def KQ (X:Cx)(r:R2):Prop:=
 ∀(value slice:É) (pins:List (G×Obj)) (s:Ã) (L:St) (H:Hp) (x y:V) (v u:F) (Q:VK),aP X pins L H s->bE x v->bE y u->r x y H Q->
  subscripted slice Y v u=operate [v,u] (getItem v u)->Å (Ä X.prog X.w) X.A (subscriptTail value slice v u) (EP X pins L Q) X.xe s
def KR (X:Cx)(id:String)(r:V->List V->Hp->VK->Prop):Prop:=
 ∀(pins:List (G×Obj)) (s:Ã) (L:St) (H:Hp) (x:V) (xs:List V) (v:F) (us:List F) (Q:VK),aP X pins L H s->bE x v->bf xs us->r x xs H Q->
  Å (Ä X.prog X.w) X.A (call (.builtin id) (v::us)) (EP X pins L Q) X.xe s
section
variable {a b:É}{ta tb:TE}
theorem KQ.or {r:R2}(h:KQ X r)(h':KQ X r'):KQ X (λx y H Q=>r x y H Q\/r' x y H Q):=by
 intro value slice pins s L H x y v u Q I rx ry q hs;rcases q with q|q
 ·exact h _ _ pins s L H x y v u Q I rx ry q hs
 ·exact h' _ _ pins s L H x y v u Q I rx ry q hs
theorem KR.or {id:String}{r r':V->List V->Hp->VK->Prop}(h:KR X id r)(h':KR X id r'):KR X id (λx xs H Q=>r x xs H Q\/r' x xs H Q):=by
 intro pins s L H x xs v us Q I rx rs q;rcases q with q|q
 ·exact h pins s L H x xs v us Q I rx rs q
 ·exact h' pins s L H x xs v us Q I rx rs q
def Nl {r:R2}(hr:KQ X r)(ha:PE X a ta)(hb:PE X b tb)(hs:xw b):PE X (.Subscript a b pos) (Gg r ta tb):=by
 intro pins s L H Q I h;exact Subscript_ (Pr ha hb I h λv u s2 x y H2 I2 rx ry q=>hr a b pins s2 L H2 x y v u Q I2 rx ry q (hs _ _))
def PL (K:Ê):R2:=λx y H Q=>∃p xs i v,x=.ref p/\y=.int i/\eI K H p xs/\kz xs i=J v/\Q v H
def Tb (K:Ê):R2:=λx y H Q=>∃p xs i v,x=.ref p/\y=.int i/\fE K H p xs/\kz xs i=J v/\Q v H
def Tc:R2:=λx y H Q=>∃z i c,x=.str z/\y=.int i/\z.length<=Â/\kz z.cps.toList i=J c/\Q (.str ⟨#[c]⟩) H
theorem CV:KQ X (PL X.K):=by
 intro value slice pins s L H x y v u Q I rx ry h hs;obtain⟨p,xs,i,z,rfl,rfl,hq,he,q⟩:=h;cases rx;obtain⟨t,rfl⟩:=ry;obtain⟨its,r,pl,hz⟩:=I.list hq;obtain⟨j,h1,h2,h3,h4,h5⟩:=xv he;obtain⟨w,ew,rw'⟩:=r.get h2;have hl:=r.length;have hn:=xr;have fin:EP X pins L Q w s:=⟨z,H,I,rw',q⟩;by_cases h0:0<=i
 ·have hj:=by
   rw[seqIndex_of h0 h5] at h1;exact ó h1
  exact item_listR pl.isList h0 (by (simp at *;lia)) (by rw[hj];simpa using ew) fin hs
 ·have hj:(i+(its.toArray.size:Int)).toNat=j:=by
   rw[seqIndex_neg (by lia) h4] at h1;rw[ë,<-hl];exact ó h1
  exact subscriptTail_builtinR pl.isList.typeIs slot_list_getitem.lookup
   (wpAny_getItem_list_neg pl.isList (by lia) (by rw[ë]<;>simp_all) (by (simp at *;lia)) (by rw[hj];simpa using ew) ⟨rfl,fin⟩) hs
theorem PM:KQ X (Tb X.K):=by
 intro value slice pins s L H x y v u Q I rx ry h hs;obtain⟨p,xs,i,z,rfl,rfl,hq,he,q⟩:=h;cases rx;obtain⟨t,rfl⟩:=ry;obtain⟨its,r,pl,hz⟩:=I.tuple hq;obtain⟨j,h1,h2,h3,h4,h5⟩:=xv he;obtain⟨w,ew,rw'⟩:=r.get h2;have hl:=r.length;have hn:=xr;have fin:EP X pins L Q w s:=⟨z,H,I,rw',q⟩;exact subscriptTail_builtinR pl.typeIs slot_tuple_getitem.lookup
  (getItem_tuple pl (by lia) (by lia) (by rw[ë,<-hl];exact h1) (by simpa using ew) ⟨rfl,fin⟩) hs
theorem PN:KQ X Tc:=by
 intro value slice pins s L H x y v u Q I rx ry h hs;obtain⟨z,i,c,rfl,rfl,hz,he,q⟩:=h;obtain⟨t,rfl⟩:=rx;obtain⟨t',rfl⟩:=ry;obtain⟨j,h1,h2,h3,h4,h5⟩:=xv he;have hl:z.cps.toList.length=z.length:=by rfl
 rw[hl] at h1 h4 h5;have hn:=xr;exact tail_any (typeIs_str s z t) slot_str_getitem.lookup (getItem_str (by
  lia) (by rw[h1];simpa using h2) ⟨.str _,H,I.tok _,⟨_,rfl⟩,q⟩) hs
def X5 (K:Ê):R2:=λx y H Q=>PL K x y H Q\/Tb K x y H Q\/Tc x y H Q
def aE:KQ X (X5 X.K):=CV.or (PM.or PN)
def BD (its:List F)(n j:Nat)(u:F):Ů (·.setIfInBounds j u) {cls:=.type "list",data:=.seq its.toArray n}={cls:=.type "list",data:=.seq (its.set j u).toArray n}:=by
 simp[Ů]
theorem aP.lst {p:G}(I:aP X pins L H s)(h:H p=J (.lst xs)) :
  ∃(its:List F) (n:Nat),bf xs its/\s.heap.get? p=J {cls:=.type "list",data:=.seq its.toArray n}/\xs.length<=Â:=by
 obtain⟨z,its,n,r,e⟩:=I.hok p _ h;exact⟨its,n,r,e,z⟩
def aP.lstUpd {p:G}{ys:List V}{rM:List F}{n n':Nat}{f:Obj->Obj}(I:aP X pins L H s)(h:H p=J (.lst xs))(ho:s.heap.get? p=J {cls:=.type "list",data:=.seq its.toArray n})(hf:f {cls:=.type "list",data:=.seq its.toArray n}={cls:=.type "list",data:=.seq rM.toArray n'})(r:bf ys rM)(hz:ys.length<=Â)(t:Nat) :
  aP X pins L (cT H p (.lst ys)) {s with heap:=s.heap.update p f,toks:=t}:=by
 have e:(s.heap.update p f).get? p=J {cls:=.type "list",data:=.seq rM.toArray n'}:=by
  rw[χ f ho (by rw[hf]<;>rfl),hf]
 refine I.write (by rw[h];trivial) (.inl rfl) (λb u hb q=>(Heap.get?_update_other _ _ (Ĝ hb)).trans q) ⟨_,e⟩ ?_;exact⟨hz,rM,n',r,e⟩
def Td:V->V->V->Hp->(Hp->Prop)->Prop:=λo i v H Q=>∃p xs k j,o=.ref p/\i=.int k/\H p=J (.lst xs)/\EV xs.length k=J j/\Q (cT H p (.lst (xs.set j v)))
theorem GW:SY X Td:=by
 intro pins s L H o i v ov iv u Q I ro ri rv h;obtain⟨p,xs,k,j,rfl,rfl,hp,hj,q⟩:=h;cases ro;obtain⟨t,rfl⟩:=ri;obtain⟨its,n,r,ho,hz⟩:=I.lst hp;obtain⟨h1,h2,h3,h4⟩:=CU hj;have hl:=r.length;have hn:=xr;have I'  :=
  I.lstUpd hp ho (BD its n j u) (r.set rv j) (by rw[ł];exact hz) s.toks
 by_cases h0:0<=k
 ·have hk:=by
   rw[seqIndex_of h0 h4] at h1;exact ó h1
  exact PySem.W.ki_setAt ho h0 (by lia) (by rw[ë,<-hl];exact h4) (by rw[hk];exact⟨_,I',q⟩)
 ·have hk:(k+(its.toArray.size:Int)).toNat=j:=by
   rw[seqIndex_neg (by lia) h3] at h1;rw[ë,<-hl];exact ó h1
  exact PySem.W.ki_setBack ho (by lia) (by rw[ë,<-hl];exact h3) (by lia) (by rw[hk];exact⟨_,I',q⟩)
theorem xx (lo hi:Option Int)(n:Nat):(θ lo hi Z n).1=((HT.sIx n 0 lo:Nat):Int)/\(θ lo hi Z n).2.1=((HT.sIx n n hi:Nat):Int)/\(θ lo hi Z n).2.2=1:=by
 refine⟨?_,?_,rfl⟩
 ·cases lo with
  |none=>rfl
  |some i=>
   simp only[θ,HT.sIx,aeJ,show (1:Int)>0 by decide,if_true];by_cases h:i<0
   ·simp only[h,if_true]<;>(simp;lia)
   ·simp only[h,if_false]<;>(simp at *;lia)
 ·cases hi with
  |none=>rfl
  |some i=>
   simp only[θ,HT.sIx,aeJ,show (1:Int)>0 by decide,if_true];by_cases h:i<0
   ·simp only[h,if_true]<;>(simp;lia)
   ·simp only[h,if_false]<;>(simp at *;lia)
theorem vA (its:List F)(lo hi:Option Int):slicePick its.toArray lo hi Z=((its.drop (HT.sIx its.length 0 lo)).take (HT.sIx its.length its.length hi-HT.sIx its.length 0 lo)).toArray:=by
 obtain⟨h1,h2,h3⟩:=xx lo hi _;unfold slicePick;rw[h1,h2,h3];simp only[sliceRange_one,pick_run]<;>rfl
def Lq (K:Ê):V->Option Int->Option Int->Hp->VK->Prop:=λx lo hi H Q=>∃a xs,x=.ref a/\eI K H a xs/\∀p,H p=Z->Q (.ref p) (cT H p (.lst (xu xs lo hi)))
theorem Lr:GU X (Lq X.K):=by
 intro pins s L H x v vl vu lo hi sl Q I rx hs pl pu h;obtain⟨a,xs,rfl,hx,q⟩:=h;cases rx;obtain⟨its,r,ht,hz⟩:=I.list hx;have ef:=r.length;refine⟨"list",_,slot_list_getitem.lookup,ht.isList.typeIs,?_⟩;refine wpAny_getItem_list_slice ht.isList hs pl pu .none (by simp) ?_ (by rw[ë]<;>lia);rw[vA,<-ef];refine⟨.ref _,_,I.laid (λb ob q=>Ö _ q) (Ð _) ?_,rfl,q _ (I.hok.fresh (Ð _))⟩;exact⟨ä (qj xs lo hi) hz,_,0,(r.drop _).take _,æ _ rfl⟩
theorem bS:eh X (.type "tuple") (λxs H Q=>∃p ys,xs=[.ref p]/\((eI X.K H p ys/\∀l,H l=Z->Q (.ref l) (cT H l (.tup ys)))\/(fE X.K H p ys/\Q (.ref p) H))):=by
 intro pins s L H xs us Q I r h;obtain⟨p,ys,rfl,h⟩:=h;obtain⟨u,rfl,rx⟩:=gD r;cases rx;rcases h with⟨hq,q⟩|⟨hq,q⟩
 ·obtain⟨its,r',pl,hz⟩:=I.list hq;have ef:=r'.length;refine call_tuple_list pl.isList (λh' kp=>?_) (by simp only[ë]<;>lia);have I1:=I.kept (t':=s.toks) kp;have I2  :=
   I1.laid (t':=s.toks) (λb o e=>Ö _ e) (Ð _) (show dE _ X.w _ _ _ (.tup ys) from ⟨hz,its,r',IsTup.new _ _,_,æ _ rfl⟩)
  exact⟨.ref _,_,I2,rfl,q _ (I1.hok.fresh (Ð _))⟩
 ·obtain⟨its,r',pl,hz⟩:=I.tuple hq;exact call_tuple_same pl ⟨.ref p,H,I,rfl,q⟩
def Vt (K:Ê)(T:String)(x:V)(H:Hp):Prop:=match x with
 | .str _=>T="str"
 | .int _=>T="int"
 | .ref p=>(T="list"/\∃xs,eI K H p xs)\/(T="tuple"/\((∃o,K.lookup p=J o/\o.cls=.type "tuple"/\o.dict=Z)\/∃xs,H p=J (.tup xs))) \/
   (T="dict"/\((∃gU,H p=J (.dK gU))\/∃gU,H p=J (.dT gU)))\/(T="set"/\∃S n,H p=J (.set S n))
 |_=>False
theorem GX {T:String}{x:V}{v:F}(I:aP X pins L H s)(r:bE x v)(ty:Vt X.K T x H) :
  s.TypeIs v T/\∀a,v=.ref a->∃ob,s.heap.get? a=J ob/\ob.dict=Z:=by
 cases x with
 |str z=>
  obtain⟨t,rfl⟩:=r;cases (show T="str" from ty);exact⟨typeIs_str s z t,λ_ e=>nomatch e⟩
 |int i=>
  obtain⟨t,rfl⟩:=r;cases (show T="int" from ty);exact⟨typeIs_int s i t,λ_ e=>nomatch e⟩
 |ref p=>
  cases r;rcases ty with⟨rfl,xs,hq⟩|⟨rfl,⟨o,hk,hc,hd⟩|⟨xs,hq⟩⟩|⟨rfl,hk⟩|⟨rfl,S,n,hk⟩
  ·obtain⟨its,_,pl,_⟩:=I.list hq;refine⟨pl.isList.typeIs,λa e=>?_⟩;cases e;obtain⟨o,n,e,c,hd,_⟩:=pl;exact⟨o,e,hd⟩
  ·refine⟨⟨o,I.kIn p o hk,hc⟩,λa e=>?_⟩;cases e;exact⟨o,I.kIn _ o hk,hd⟩
  ·obtain⟨_,its,_,⟨o,e,c,_⟩,n2,e2⟩:=I.hok p _ hq;refine⟨⟨o,e,c⟩,λa e'=>?_⟩;cases e';exact⟨_,e2,rfl⟩
  ·have z:∃o,s.heap.get? p=J o/\o.ExactDict:=by
    rcases hk with⟨gU,hk⟩|⟨gU,hk⟩
    ·obtain⟨_,_,_,_,o,_,_,e,ex,_⟩:=I.hok p _ hk;exact⟨o,e,ex⟩
    ·obtain⟨_,_,_,_,o,_,_,e,ex,_⟩:=I.hok p _ hk;exact⟨o,e,ex⟩
   obtain⟨o,e,ex⟩:=z;refine⟨⟨o,e,ex.1⟩,λa e2=>?_⟩;cases e2;exact⟨o,e,ex.2.1⟩
  ·obtain⟨o,_,_,_,e,ex,_⟩:=I.hok p _ hk;refine⟨⟨o,e,ex.1⟩,λa e2=>?_⟩;cases e2;exact⟨o,e,ex.2.1⟩
 |_=>exact Ė ty
def Wf (K:Ê)(T:String)(r:V->List V->Hp->VK->Prop)(to:TE):TE:=λL H Q=>to L H λx H1=>Vt K T x H1/\r x [] H1 Q
def Te (K:Ê)(T:String)(r:V->List V->Hp->VK->Prop)(to:TE)(t:TA):TE:=λL H Q=>to L H λx H1=>Vt K T x H1/\t L H1 λxs H2=>r x xs H2 Q
variable {o e:É}{to:TE}{t:TA}{name:Str}{cO dJ:Pos}{T id:String}{r:V->List V->Hp->VK->Prop}
theorem GY (pa:PlainAttrs T)(slot:Slot T name id)(Xk:typeOf (.builtin id)=pure (.type "method_descriptor"))(hm:KR X id r)(ho:PE X o to)(ha:PA X (e::es) t)
  (lB:Ķ o name X.env (Ì o X.env)=Ì o X.env:=by rfl)
  (yM:((ã dJ (Ç (e::es) X.env)).all (λx=> !x.1)&&(ĥ dJ (ģ [] X.env)).all (λx=>x.1.isSome)
   && decide ((e::es).length+([]:List Ċ).length+(if ([]:List Ċ).isEmpty then 0 else 1)<30))=M:=by rfl)
  (lC:(cO.endLine==dJ.line)=M:=by rfl) (hs:Ç (e::es) X.env=(Y,Ì e X.env)::Ç es X.env:=by rfl) (vj:(ã dJ (Ç es X.env)).any (·.1)=Y:=by rfl) :
  PE X (.Call (.Attribute o name cO) (e::es) [] dJ) (Te X.K T r to t):=by
 intro pins s L H Q I h;refine wpAny_Call_method_late lB yM lC rfl (cU (ho pins s L H _ I h) λv s1 h00=>?_);obtain⟨x,H1,I1,r1,ty,q1⟩:=h00;obtain⟨h1,h2⟩:=GX I1 r1 ty;refine⟨T,id,pa,slot,Xk,h1,h2,?_⟩;have hA:=ha dJ pins s1 L H1 _ I1 q1;rw[hs] at hA |-;refine aer (by show (Y||(ã dJ _).any _)=Y;rw[vj]<;>rfl) (Calls.evalArgs_plain ?_);exact cU hA λus s2 ⟨vs,H2,I2,r2,q2⟩=>hm pins s2 L H2 x vs v us Q I2 r1 r2 q2
end
end L2
namespace L2
def Wg (X:Cx)(id:String)(r:V->List V->Hp->VK->Prop):Prop:=
 ∀(pins:List (G×Obj)) (s:Ã) (L:St) (H:Hp) (x:V) (xs:List V) (v:F) (us:List F) (Q:VK),aP X pins L H s->bE x v->bf xs us->r x xs H Q->
  Å (Ä X.prog X.w) X.A (call (.builtin id) (v::us)) (EP X pins L Q) X.xe s
def bf.one:∀{x:V} {us:List F},bf [x] us->∃u,us=[u]/\bE x u
 |_,_,.cons r .nil=>⟨_,rfl,r⟩
theorem bf.eraseIdx:∀{xs:List V} {us:List F} (i:Nat),bf xs us->bf (xs.eraseIdx i) (us.eraseIdx i)
 |_,_,_,.nil=>.nil
 |_,_,0,.cons _ t=>t
 |_,_,i+1,.cons r t=>.cons r (bf.eraseIdx i t)
theorem wm {α:Type}:∀(l:List α) (i:Nat),(l.eraseIdx i).length<=l.length
 | [],_=>Ð _
 |_::_,0=>Nat.le_succ _
 |_::r,i+1=>Nat.succ_le_succ (wm r i)
section
variable {l:G}{ys zs:List V}
def aP.lset {t':Nat}{rM:List F}{n:Nat}{f:Array F->Array F}(I:aP X pins L H s)(hH:H l=J (.lst xs))(e:s.heap.get? l=J {cls:=.type "list",data:=.seq its.toArray n})(hf:f its.toArray=rM.toArray)(hv:bf ys rM)(hz:ys.length<=Â) :
  aP X pins L (cT H l (.lst ys)) {s with heap:=s.heap.update l (Ů f),toks:=t'}:=by
 have q:=PySem.IsL.update e f;rw[hf] at q;refine I.write (by rw[hH];exact trivial) (.inl rfl) (λb' u hb hu=>(Heap.get?_update_other _ _ (Ĝ hb)).trans hu) ⟨_,q⟩ ?_;exact⟨hz,rM,_,hv,q⟩
def aP.lnew {t':Nat}(I:aP X pins L H s)(hv:bf ys its)(hz:ys.length<=Â) :
  aP X pins L (cT H s.heap.objs.size (.lst ys)) {s with heap:=s.heap.push {cls:=.type "list",data:=.seq its.toArray},toks:=t'}:=
 I.laid (λ_ _ q=>Ö _ q) (Ð _) ⟨hz,its,0,hv,æ _ rfl⟩
def aP.fresh (I:aP X pins L H s):H s.heap.objs.size=Z:=I.hok.fresh (Ð _)
theorem aP.lstM (I:aP X pins L H s)(hH:H l=J (.lst xs)):xs.length<=Â/\∃(its:List F) (n:Nat),bf xs its/\xs.length=its.length/\s.heap.get? l=J {cls:=.type "list",data:=.seq its.toArray n}:=by
 obtain⟨z,its,n,r,e⟩:=I.hok l _ hH;exact⟨z,its,n,r,r.length,e⟩
theorem y6 {n:Nat}(h:n<=Â):ad4 n=Y:=by
 exact hJ (by lia)
end
def nJ:V->List V->Hp->VK->Prop:=λx vs H Q=>∃l xs y,x=.ref l/\vs=[y]/\H l=J (.lst xs)/\xs.length<Â/\Q .non (cT H l (.lst (xs++[y])))
theorem pA:Wg X "list.append" nJ:=by
 intro pins s L H x vs v us Q I rx rv h;obtain⟨l,xs,y,rfl,rfl,hH,hz,q⟩:=h;cases rx;obtain⟨u,rfl,ru⟩:=rv.one;obtain⟨z,its,n,r,hl,e⟩:=I.lstM hH;refine call_meets F.slot_list_append ⟨_,e,rfl⟩ F.entry_list_append (F.args_list_append_2 _ _) (PySem.list_append l _ n u (by rw[ë];simp_all)) ⟨e,?_⟩;refine⟨.non,_,I.lset hH e (by simp) (r.append (.cons ru .nil)) ?_,rfl,q⟩;rw[Þ,Ϝ];assumption
def GZ:V->List V->Hp->VK->Prop:=λx vs H Q=>∃l xs i k y,x=.ref l/\vs=[.int i]/\H l=J (.lst xs)/\ -(2 ^ 63)<=i/\i<2 ^ 63/\ų i xs.length=J k/\xs[k]? = J y/\Q y (cT H l (.lst (xs.eraseIdx k)))
theorem G0:Wg X "list.pop" GZ:=by
 intro pins s L H x vs v us Q I rx rv h;obtain⟨l,xs,i,k,y,rfl,rfl,hH,h1,h2,hk,hy,q⟩:=h;cases rx;obtain⟨u,rfl,ru⟩:=rv.one;obtain⟨t,rfl⟩:=ru;obtain⟨z,its,n,r,hl,e⟩:=I.lstM hH;obtain⟨w,hw,rw'⟩:=r.get hy;refine call_meets F.slot_list_pop ⟨_,e,rfl⟩ F.entry_list_pop (F.args_list_pop_2 _ _)
  (MeetsSeq.list_pop_at l _ n i t k w (fitsIndex_both h1 h2) (by rw[ë,<-hl];exact hk) (by rw[<-Ĕ];exact hw) (by rw[ë];lia)) ⟨e,?_⟩
 refine⟨y,_,I.lset hH e ?_ (r.eraseIdx k) ?_,rw',q⟩
 ·simp
 ·have:=wm xs k;lia
section
variable {A:Ñ}
set_option maxRecDepth 100000 in
end
end L2
namespace Att
open PySem.W PySem.Calls
theorem rk {P:Params}:∀(ns:List Int) (vs:List F),WellAll P h vs (ns.map WData.int)->ý vs ns:=by
 intro ns
 induction ns with
 |nil=>
  intro vs w;cases w;exact .nil
 |cons n ns ih=>
  intro vs w;cases w with
  |cons a b=>
   cases a;exact .cons _ _ (ih _ b)
theorem EW {l:OpenLaw}{n:Nat}(hn:l.most=J n){P:Params}{args:List WData}{RS:List F}(M9:l.row.toRowW.claim.pre args=M)(Xl:WellAll P h RS args) :
  ∃a vs ns,RS=[Value.ref a]/\args=[WData.list (ns.map WData.int)]/\h.get? a=J {cls:=.type "list",data:=.seq vs.toArray}/\ý vs ns/\ns.length<=n:=by
 have Zh:=(pre_splitW M9).1;have hc:l.pre.holds [] _=M:=(pre_splitW M9).2;obtain⟨d,r,rfl,h1,h2⟩:=hasAllW_cons Zh;obtain rfl:=hasAllW_nil h2;obtain⟨xs,rfl,h3⟩:=hasW_list h1;obtain⟨ns,rfl⟩:=items_int h3;have ef:=by
  have h4:=by
   have h4:=(holds_andW hc).1;rw[hn] at h4;exact h4
  have h5:=condW_of h4 (w_not (w_lt w_lit (w_len_list (w_arg rfl))))
  first
   | (exact absurd h5 (by decide))
   | (simp at h5;omega)
 cases Xl with
 |cons w1 w2=>
  cases w2;cases w1 with
  |list ho hall=>exact⟨_,_,ns,rfl,rfl,ho,rk ns _ hall,ef⟩
def EX (l:OpenLaw)(args:List WData):l.row.toRowW.claim.post args (.bool M) args=M:=
 postW_of
  (show WShape.has [] _ _=M by rfl)
  (show (WTm.eq .res _).value [] _=J _ from w_eq_bool (w_res rfl) w_lit) rfl
theorem attach_call {l:OpenLaw}{n:Nat}{q:ø}{d:DefRec}(hn:l.most=J n)(U0:d.params.defaults=[])(call:∀(w:ß) (s₀ s₁:Ã) (mg mb:Str->Option F) (fa:Õ) (o:Obj) (pm cd ku:F) (a:Õ) (vs:List F) (ns:List Int),
   Ground q loose [] XP w s₀ mg mb s₁.heap->YP w s₁.heap->
   s₁.heap.get? fa=J o->o.data=.func (docDef d.name d.params d.body d.scope pm cd ku)->s₁.heap.CodeRec cd d.name->mg d.name=J (.ref fa)->
   s₁.heap.get? a=J {cls:=.type "list",data:=.seq vs.toArray}->ý vs ns->ns.length<=n->s₁.gens=#[]->
   ĺ (Ä l.prog w) callerA (.call (.ref fa) ⟨[.ref a],[]⟩) (λr s'=>r=.ok (.ret (.bool M))/\OldK s₁.heap s'.heap/\s'.os=s₁.os/\AllBare s'.gens) s₁) :
  WalkO q loose XP YP l.row.toRowW d [] (λf vs=>PySem.call f vs):=by
 intro w s₀ s₁ mg mb G Yq fa o pm cd ku dV kV ho hd iQ hD U1 hg args RS as M9 Zi Z_ Xl hlo;obtain rfl:dV=.none:=Dflts.none hD U0;obtain rfl:kV=.none:=Dflts.noKw hD;obtain⟨a,vs,ns,rfl,rfl,RT,Kw,ef⟩:=EW hn M9 Xl;refine enter_call (ű (call w s₀ s₁ mg mb fa o pm cd ku a vs ns G Yq ho (fd_plain hd) iQ U1 RT Kw ef hg) λr s' hq=>?_);obtain⟨rfl,h2,h3,h4⟩:=hq;exact⟨.inl ⟨.bool M,.bool M,[],rfl,λ_=>rfl,.bool M,EX l _,λ_=>⟨List.Pairwise.nil,λ_ hm=>(nomatch hm)⟩⟩,h2,h3,h4⟩
end Att
namespace L2
theorem pB:∀{vs:List F} {ns:List Int},ý vs ns->bf (ns.map V.int) vs
 |_,_,.nil=>.nil
 |_,_,.cons n t h=>.cons ⟨t,rfl⟩ (pB h)
def Ls (H:Hp):Prop:=∀b,H b=Z\/∃o xs,H b=J (.frz o (.lst xs))
theorem G1 {mb:Str->Option ò}{fa:G}{s₁:Ã}{vs:List ò}(KX:K.In s₁.heap)(Yx:s₁.heap.Ns ç mg)(hb:s₁.heap.Ns builtinsNs mb)(Zj:∀x:Str,x≠"__name__"->mb x=þ x)(Xm:s₁.heap.NoLimit)(hg:s₁.gens=#[])(ha:s₁.heap.get? a=J {cls:=.type "list",data:=.seq vs.toArray})(hi:ý vs ns)(hl:ns.length<=Â)(hr:cI k callerA)(F:∀base:Í,K.In base->base.Ns ç mg->fc P w K mg base CX k fa fd [x] sp)(U2:∀(s:Ã) (u:ò),BindsTo s fd ⟨[u],[]⟩ [(x,u)])(Gd:∀H:Hp,Ls H->eI K H a (ns.map V.int)->sp [.ref a] H (λv _=>v=.bl M) λ_ _ _=>False)(Xn:∀H e s',CX [] H s₁ (λ_ _ _=>False) e s'->False) :
  ĺ (Ä P w) callerA (.call (.ref fa) ⟨[.ref a],[]⟩) (λr s'=>r=.ok (.ret (.bool M))/\OldK s₁.heap s'.heap/\s'.os=s₁.os/\AllBare s'.gens) s₁:=by
 have rv:=pB hi;have Xo:=hi.length;have U3:∀H ,Ls H->eI K H a (ns.map V.int)->pb P w H s₁.heap->(∀b,H b≠Z->b=a)->(H a≠Z->K.lookup a=Z)->
   ĺ (Ä P w) callerA (.call (.ref fa) ⟨[.ref a],[]⟩) (λr s'=>r=.ok (.ret (.bool M))/\OldK s₁.heap s'.heap/\s'.os=s₁.os/\AllBare s'.gens) s₁:=by
  intro H hO hS hok hA hK;have EB:∀{b:G} {o:Obj},s₁.heap.get? b=J o->H b=Z->(EH _ H).get? b=J o:=λe n=>Gs e n;have UY:∀{b:G} {o:Obj} {es:Array _} {ep:Nat},s₁.heap.get? b=J o->o.data=.dict es ep->H b=Z:=λ{b o es ep} e d=>by
   grind
  have VO:∀{b:G} {m:Str->Option _},s₁.heap.Ns b m->(EH _ H).Ns b m:=λ{b m} ⟨o,es,ep,e,d,r⟩=>⟨o,es,ep,EB e (UY e d),d,r⟩;have Yy:=λb o e=>EB (KX b o e) (by
   grind)
  have hM:Mod K mg _:=⟨Yy,VO Yx,⟨mb,VO hb,Zj⟩,let ⟨mc,h1,h2⟩:=Xm;⟨mc,VO h1,h2⟩⟩;have e0:Bz P w K mg _ callerA [] s₁ H:=⟨rfl,hM,λb o e=>K6 e,Nat.le_of_eq (EI _ _),trivial,λb hb=>absurd (show b∈([]:List G) from hb) (by simp),hok,.of_eq hg⟩;refine ű ((F _ Yy (VO Yx)).run _ [] s₁ H _ _ [.ref a] _ _ hr e0 (U2 s₁ _) (.cons rfl .nil) (Gd H hO hS)) λr s' h=>?_;cases r with
  |error e=>exact (Xn H e s' h).elim
  |ok fl=>
   cases fl with
   |next=>exact Ė h
   |brk=>exact Ė h
   |cont=>exact Ė h
   |ret u=>
    obtain⟨v,H',os,bare,un,hok',r',q⟩:=h;have q' :=q;subst q';obtain rfl:u=Value.bool M:=r';refine⟨rfl,OldK.of_keep λb o e=>?_,os,bare⟩;cases q:H b with
    |none=>exact un.keep b o e q (by intro z;exact absurd (show b∈([]:List G) from z) (by simp)) (by simp)
    |some u=>
     rcases hO b with z|⟨ob,xs,z⟩
     ·lia
     ·have z2:=un.frzs b ob _ z;obtain⟨e1,_⟩:=hok b _ z;obtain⟨e2,_⟩:=hok' b _ z2;lia
 cases hk:K.lookup a with
 |some o=>
  have e:=KX a o hk;rw[ha] at e;cases e;refine U3 _ (λ_=>.inl rfl) (.inr ⟨_,vs.toArray,_,hk,rfl,rfl,rfl,by rw[ë,Xo];exact hl,by simpa using rv⟩) (λb u z=>by lia) (λb z=>absurd rfl z) λz=>absurd rfl z
 |none=>
  refine U3 (λb=>if b=a then J _ else Z) (λb=>?_) (.inl (.inr ⟨{cls:=.type "list",data:=.seq vs.toArray},hV rfl⟩)) (λb u z=>?_) (λb z=>?_) λ_=>hk
  ·by_cases hb:b=a
   ·exact .inr ⟨_,_,hV hb⟩
   ·exact .inl (hU hb)
  ·by_cases hb:b=a
   ·have z':=(hV hb).symm.trans z;cases z';subst hb;exact⟨ha,by rw[Æ];exact hl,vs,_,rv,ha⟩
   ·have z':=(hU hb).symm.trans z;cases z'
  ·by_cases hb:b=a
   ·exact hb
   ·exact absurd (hU hb) z
end L2
namespace L2
theorem walk_of {l:PySem.W.OpenLaw}{n:Nat}{q:ø}{d:DefRec}{K:Params->Ê}{CX:ß->CXT}{sp:ß->Sp}(hn:l.most=J n)(M8:n<=Â)(U0:d.params.defaults=[])(hr:cI k callerA)(hY:∀(w:ß) (h:Í),YP w h->(K w.params).In h)(F:∀(w:ß) (mg:Str->Option ò) (fa:Õ) (h:Í),(K w.params).In h->h.Ns ç mg->mg d.name=J (.ref fa)->
   ∃fd:ĭ,(∀(s:Ã) (u:ò),BindsTo s fd ⟨[u],[]⟩ [(x,u)])/\
    ∀base:Í,(K w.params).In base->base.Ns ç mg->fc l.prog w (K w.params) mg base (CX w) k fa fd [x] (sp w))(Gd:∀(w:ß) (H:Hp) (a:Õ) (ns:List Int),ns.length<=n->Ls H->eI (K w.params) H a (ns.map V.int)->sp w [.ref a] H (λv _=>v=.bl M) λ_ _ _=>False)(Xn:∀(w:ß) (H:Hp) (s:Ã) (e:ò) (s':Ã),CX w [] H s (λ_ _ _=>False) e s'->False) :
  PySem.W.WalkO q loose XP YP l.row.toRowW d [] (λf vs=>PySem.call f vs):=by
 refine Att.attach_call hn U0 λw s₀ s₁ mg mb fa o pm cd ku a vs ns G Yq ho hd iQ U1 RT Kw ef hg=>?_;have KX:=hY w _ Yq;obtain⟨fd,hb,hF⟩:=F w mg fa _ KX G.T.g U1;exact G1 KX G.T.g G.T.b G.T.builtins G.T.nolimit hg RT Kw (ä ef M8) hr hF hb (λH hO hS=>Gd w H a ns ef hO hS) λH e s'=>Xn w H s₁ e s'
end L2
namespace L2
abbrev kg:CXT:=λ_ _ _ _ _ _=>False
abbrev E0:XK:=λ_ _ _=>False
def wo:mQ kg X E0:=λ_ _ _ _ _ _ _ h=>h.elim
structure rl (K:Ê)(x qual:Str)(st:Ô)(f:G)(fd:ĭ):Prop where
 ex:∃(oc:F) (od:Option G) (kV ku pm:F) (an:Option G) (bT ct:F) (osl:Array (Option F)),
  fd=Ĉ x qual (di st) (aU st) (ag st) .none kV ku pm an bT ct/\K.lookup f=J ⟨oc,od,.func fd,osl⟩/\ż K bT qual=M
 kp:Ń K (.ref f)=M
section
variable {base:Í}
theorem rl.ok (F:rl K x qual st f fd)(S:az N ps (ag st))(len:∀vs H Q E,sp vs H Q E->vs.length=ps.length)(dZ:∀(bT:ò) (A:Ñ) (outer:List Env) (s:Ã) (H:Hp) (vs:List V) (Q:VK) (E:XK),cI k (A.deeper (Ć qual (ag st) s.heap.objs.size f bT))->sp vs H Q E->
   ∃t,vy (eZ kg P w K mg base N qual (ag st) f bT A outer s H E).nox (aU st) t/\t {nx:=λ_ H'=>Q .non H',rt:=Q} (ô N vs) H):fc P w K mg base kg (k+1) f fd ps sp:=by
 obtain⟨oc,od,kV,ku,pm,an,bT,ct,osl,rfl,lk,iQ⟩:=F.ex;refine S9 lk iQ S len λA outer s H vs Q E hr Gd=>?_;obtain⟨t,h,q⟩:=dZ bT A _ s H vs Q E hr Gd;exact⟨t,h.nox,q⟩
theorem rl.binds (F:rl K x qual st f fd)(h:∀(kV ku pm:ò) (an:Option G) (bT ct:ò) (us:List ò),us.length=ps.length->bindArgs (Ĉ x qual (di st) (aU st) (ag st) .none kV ku pm an bT ct) ⟨us,[]⟩=pure (ps.zip us)):jj K fd ps []:=by
 obtain⟨oc,od,kV,ku,pm,an,bT,ct,osl,rfl,lk,iQ⟩:=F.ex;exact .all (h kV ku pm an bT ct)
def xy {oc:F}{kV ku pm bT ct:F}(l:K.lookup f=J ⟨oc,od,.func (Ĉ x qual (di st) (aU st) (ag st) .none kV ku pm an bT ct),osl⟩)(c:ż K bT qual=M)(k:Ń K (.ref f)=M):rl K x qual st f (Ĉ x qual (di st) (aU st) (ag st) .none kV ku pm an bT ct):=⟨⟨oc,od,kV,ku,pm,an,bT,ct,osl,rfl,l,c⟩,k⟩
end
def g8 {A:Ñ}(hr:cI k A):A.units+1<î:=γ (Nat.add_le_add_left (by decide:1<=64) _) hr.units
def aO (H H':Hp):Prop:=∀b o,H b=J o->H' b=J o
def aO.refl (H:Hp):aO H H:=λ_ _ h=>h
def aO.trans (a:aO H H1)(b:aO H1 H2):aO H H2:=λc o h=>b c o (a c o h)
theorem aO.seq (e:aO H H')(h:eI K H a xs):eI K H' a xs:=by
 rcases h with (h|⟨o,h⟩)|h
 ·exact .inl (.inl (e _ _ h))
 ·exact .inl (.inr ⟨o,e _ _ h⟩)
 ·exact .inr h
end L2
namespace L2
section
variable {κ:Type}[DecidableEq κ]
noncomputable def vB (gU:List (κ×V))(k:κ):Option V:=(gU.find? λkv=>decide (kv.1=k)).map (·.2)
def G2 {p:κ×V}{r:List (κ×V)}{k:κ}(e:p.1=k):vB (p::r) k=J p.2:=by simp[vB,e]
def G4 {p:κ×V}{r:List (κ×V)}{k:κ}(e:¬p.1=k):vB (p::r) k=vB r k:=by simp[vB,e]
theorem o_.isSome_eq {o:Option V}{u:Option F}(r:o_ o u):o.isSome=u.isSome:=by
 cases o with
 |none=>cases u with
  |none=>rfl
  |some _=>exact (show False from r).elim
 |some _=>cases u with
  |none=>exact (show False from r).elim
  |some _=>rfl
theorem KV.val {gU:List (κ×V)}{vs:List (κ×F)}(r:KV gU vs)(k:κ):o_ (vB gU k) (valueAt vs k):=by
 induction r with
 |nil=>exact True.intro
 | @cons p q ps qs h t ih=>
  obtain⟨h1,h2⟩:=h;by_cases e:p.1=k
  ·have e' :=h1.symm.trans e;have b:valueAt (q::qs) k=J q.2:=by simp[valueAt,e']
   rw[G2 e,b];exact h2
  simp_all[valueAt,G4]
end
theorem Nm {k:md}{u:F}(r:bE (kV k) u):(iR P w).is k u=M:=by
 cases k with
 |inl i=>obtain⟨t,e⟩:=(show ∃t,u=Value.int i t from r);subst e;exact yT P w i t
 |inr x=>obtain⟨t,e⟩:=(show ∃t,u=Value.str x t from r);subst e;exact ky P w x t
def Tf (i:É):Prop:=∀ov iv,subscripted i Y ov iv=operate [ov,iv] (getItem ov iv)
theorem Lu {A:Ñ}{value slice:É}{T id:String}(hl:typeLookup (.type T) "__getitem__"=pure (J (.builtin id)))(hs:Tf slice)(h:Å (Ä prog w) A (Ì value env) (λo s₁=>Å (Ä prog w) A (Ì slice env) (λi s₂=>s₂.TypeIs o T/\Å (Ä prog w) A (getItem o i) Q E s₂) E s₁) E s) :
  Å (Ä prog w) A (Ì (.Subscript value slice pos) env) Q E s:=by
 refine Subscript_ (ù h (λo s₁ h₁=>ù h₁ (λi s₂ h₂=>?_) λ_ _ x=>x) λ_ _ x=>x);obtain⟨hT,h₂⟩:=h₂;refine À ?_;refine À (wpAny_specialOf hT hl ?_);have fin:Å (Ä prog w) A (subscripted slice Y o i) (λr s₃=>Å (Ä prog w) A (letTemporaryGo value o r >>= λ_=>pure r) Q E s₃) E s₂:=by
  rw[hs o i];exact wpAny_operating (ù h₂ (λr s₃ h₃=>À (wpAny_letTemporaryGo (Ë h₃))) λ_ _ x=>x)
 first
  |exact Ë (À fin)
  |exact À _
  |exact À fin
structure M1 (X:Cx)(o:É)(m:Str)(cO:Pos)(e:É)(dJ:Pos):Prop where
 base:Ķ o m X.env (Ì o X.env)=Ì o X.env
 few:((ã dJ (Ç [e] X.env)).all (λx=> !x.1)&&(ĥ dJ (ģ [] X.env)).all (λx=>x.1.isSome)
  && decide (([e]:List É).length+([]:List Ċ).length+(if ([]:List Ċ).isEmpty then 0 else 1)<30))=M
 line:(cO.endLine==dJ.line)=M
 trees:ã dJ (Ç [e] X.env)=[(Y,Ì e X.env)]
structure M2 (X:Cx)(o:É)(m:Str)(cO:Pos)(e f:É)(dJ:Pos):Prop where
 base:Ķ o m X.env (Ì o X.env)=Ì o X.env
 few:((ã dJ (Ç [e,f] X.env)).all (λx=> !x.1)&&(ĥ dJ (ģ [] X.env)).all (λx=>x.1.isSome)
  && decide (([e,f]:List É).length+([]:List Ċ).length+(if ([]:List Ċ).isEmpty then 0 else 1)<30))=M
 line:(cO.endLine==dJ.line)=M
 trees:ã dJ (Ç [e,f] X.env)=[(Y,Ì e X.env),(Y,Ì f X.env)]
end L2
namespace L2
end L2
namespace L2
theorem BE (hf:∀x,(x,NameKind.free)∈scope.names->∃c,env.cells.lookup x=J c) :
  ∃cl:List (Str×G),closureFor scope env=pure cl/\(∀x c,cl.lookup x=J c->env.cells.lookup x=J c)/\∀x,(x,NameKind.free)∈scope.names->∃c,cl.lookup x=J c:=by
 have gen:∀(names:List _) (cs:List _),(∀x,(x,NameKind.free)∈names->∃c,env.cells.lookup x=J c)->(∀x c,cs.lookup x=J c->env.cells.lookup x=J c)->
   ∃cl:List _,(forIn names cs λ(x:Str×Ν) (r:List _)=>(match x with|(name,kind)=>if (kind==NameKind.free)=M then (do let a ←cellOf env name;pure (ForInStep.yield ((name,a)::r))) else pure (ForInStep.yield r):Sem _))=(pure cl:Sem _)/\
    (∀x c,cl.lookup x=J c->env.cells.lookup x=J c)/\(∀x c,cs.lookup x=J c->∃c',cl.lookup x=J c')/\∀x,(x,NameKind.free)∈names->∃c,cl.lookup x=J c:=by
  intro names
  induction names with
  |nil=>intro cs _ h;exact⟨cs,rfl,h,λx c e=>⟨c,e⟩,λx hx=>absurd hx (by simp)⟩
  |cons p r ih=>
   intro cs hn h;obtain⟨n,k⟩:=p;by_cases hk:k=NameKind.free
   ·subst hk;obtain⟨c,hc⟩:=hn n Ú;have h':∀x c',((n,c)::cs).lookup x=J c'->env.cells.lookup x=J c':=λx c' e=>by
     rw[Ğ] at e;by_cases hx:x==n
     ·rw[hx] at e;have:=by simpa using hx
      subst this;cases e;exact hc
     ·rw[Α.mpr hx] at e;exact h x c' e
    obtain⟨cl,e1,e2,e3,e4⟩:=ih _ (λx hx=>hn x (Ý _ hx)) h';refine⟨cl,?_,e2,λx c' e=>?_,λx hx=>?_⟩
    ·rw[Ϩ];have:cellOf env n=pure c:=by unfold cellOf;rw[hc]
     simp only[this];exact e1
    ·by_cases hx:x=n
     ·subst hx;exact e3 x c (by simp)
     ·exact e3 x c' (by rw[Ğ,show (x==n)=Y from by simpa using hx];exact e)
    ·rcases à.mp hx with e|hx
     ·cases e;exact e3 n c (by simp)
     ·exact e4 x hx
   ·obtain⟨cl,e1,e2,e3,e4⟩:=ih cs (λx hx=>hn x (Ý _ hx)) h;refine⟨cl,?_,e2,e3,λx hx=>?_⟩
    ·rw[Ϩ];have:(k==NameKind.free)=Y:=by simpa using hk
     simp only[this,if_false];exact e1
    ·rcases à.mp hx with e|hx
     ·cases e;exact absurd rfl hk
     ·exact e4 x hx
 obtain⟨cl,e1,e2,_,e4⟩:=gen _ [] hf (λx c e=>by simp at e);refine⟨cl,?_,e2,e4⟩;exact (congrArg (λm=>m >>= λr=>pure r) e1).trans rfl
structure rn where
 C:G
 s:Ã
 H:Hp
 fp:List G
 pins:List (G×Obj)
 cl:List (Str×G)
noncomputable abbrev fg (X:Cx)(scope:Ā)(N:List Str)(Yq:rn):Cx where
 prog:=X.prog
 w:=X.w
 K:=X.K
 mg:=X.mg
 base:=X.base
 A:=X.A
 N:=N
 s₀:=Yq.s
 H₀:=Yq.H
 env:=compEnvC scope Yq.cl Yq.C X.env
 outer:=X.stack
 stack:=X.stack
 ex:=Yq.fp
 fn:=λ_=>Y
 calm:=X.calm
 pn:=X.pn++Yq.pins
 xe:=λ_ _=>False
noncomputable def sR (ke:Ā)(NX:List Str)(scope:Ā)(N:List Str)(js:List (Option Nat)):Bool:=
 decide (scope.kind=.function)&&scope.names.all (λy=>decide (y.2≠.cell))&&scope.names.all (λy=>decide (y.2=.local->scope.names.lookup y.1=J .local))&&decide (js.length=N.length) &&
 (js.zip N).all (λp=>match p.1 with|none=>M|some j=>decide (NX[j]? = J p.2)&&decide (scope.names.lookup p.2=J .free)) &&
 scope.names.all (λy=>decide (y.2=.free->ke.names.lookup y.1=J .cell\/ke.names.lookup y.1=J .free))
structure nK (ke:Ā)(NX:List Str)(scope:Ā)(N:List Str)(js:List (Option Nat)):Prop where
 kind:scope.kind=.function
 nocell:∀y∈scope.names,y.2≠.cell
 loc:∀y∈scope.names,y.2=.local->scope.names.lookup y.1=J .local
 len:js.length=N.length
 cap:∀(i j:Nat) (x:Str),js[i]? = J (J j)->N[i]? = J x->NX[j]? = J x/\scope.names.lookup x=J .free
 free:∀x,(x,NameKind.free)∈scope.names->ke.names.lookup x=J .cell\/ke.names.lookup x=J .free
theorem sR.to {ke:Ā}{NX:List Str}(h:sR ke NX scope N js=M):nK ke NX scope N js:=by
 unfold sR at h;simp only[é] at h;obtain⟨⟨⟨⟨⟨h1,h2⟩,h3⟩,h4⟩,h5⟩,h6⟩:=h;refine⟨of_decide_eq_true h1,λy hy=>of_decide_eq_true (ì.mp h2 y hy),λy hy=>of_decide_eq_true (ì.mp h3 y hy),of_decide_eq_true h4,λi j x e1 e2=>?_,λx hx=>of_decide_eq_true (ì.mp h6 _ hx) rfl⟩;have hz:(js.zip N)[i]? = J (J j,x):=by
  rw[List.getElem?_zip_eq_some];exact⟨e1,e2⟩
 have q:=ì.mp h5 _ (į hz);simp only[é] at q;exact⟨of_decide_eq_true q.1,of_decide_eq_true q.2⟩
noncomputable def CW (js:List (Option Nat))(L:St):St:=js.map λo=>match o with
 |none=>Z
 |some j=>match L[j]? with
  |some v=>v
  |none=>Z
theorem nM (rg:∀y∈scope.names,y.2≠.cell)(h:(relabel scope env).names.lookup x=J .cell\/(relabel scope env).names.lookup x=J .free):(x,NameKind.free)∈scope.names:=by
 have gen:∀k,(k=NameKind.cell\/k=NameKind.free)->(relabel scope env).names.lookup x=J k->(x,NameKind.free)∈scope.names:=λk hk e=>by
  have hm:=ŗ e;obtain⟨⟨n,k0⟩,hy,q⟩:=á.mp hm;grind
 rcases h with h|h
 ·exact gen _ (.inl rfl) h
 ·exact gen _ (.inr rfl) h
theorem eo {env:Env}{x:Str}:∀{names:List (Str×Ν)},names.lookup x=J .free->
  (names.map λ(n,k)=>if (k==NameKind.free&&env.scope.kind==.function&&env.kindOf n==J .cell) then (n,NameKind.cell) else (n,k)).lookup x=J .cell \/
  (names.map λ(n,k)=>if (k==NameKind.free&&env.scope.kind==.function&&env.kindOf n==J .cell) then (n,NameKind.cell) else (n,k)).lookup x=J .free
 | [],h=>by simp at h
 | (n,k)::r,h=>by
  rw[å];by_cases hx:x==n
  ·rw[Ğ,hx] at h;cases h;by_cases c:(NameKind.free==NameKind.free&&env.scope.kind==.function&&env.kindOf n==J .cell)=M
   ·refine .inl ?_;show ő x ((if (NameKind.free==NameKind.free&&env.scope.kind==.function&&env.kindOf n==J .cell)=M then (n,NameKind.cell) else (n,NameKind.free))::_)=_;rw[hV c,Ğ,hx]
   ·refine .inr ?_;show ő x ((if (NameKind.free==NameKind.free&&env.scope.kind==.function&&env.kindOf n==J .cell)=M then (n,NameKind.cell) else (n,NameKind.free))::_)=_;rw[hU c,Ğ,hx]
  ·have vt:=Α.mpr hx;rw[Ğ,vt] at h;have ih:=eo (env:=env) h;have e:∀p ,p.1=n->ő x (p::(r.map λ(n,k)=>if (k==NameKind.free&&env.scope.kind==.function&&env.kindOf n==J .cell) then (n,NameKind.cell) else (n,k))) =
     ő x _:=λp hp=>by
    cases hp;rw[Ğ,vt]
   rw[e _ (by dsimp only;split<;>rfl)];exact ih
def EY (X:Cx)(sI:List É)(t:TT):Prop:=
 ∀(pins:List (G×Obj)) (s:Ã) (L:St) (H:Hp) (Q:Bool->Hp->Prop),aP X pins L H s->t L H Q->
  Å (Ä X.prog X.w) X.A (forIn sI M λc r=>if r=M then do let ok ←isTrue c X.env (Ì c X.env);pure (ForInStep.yield ok) else pure (ForInStep.yield r)) (TP X pins L Q) X.xe s
def Wh:TT:=λ_ H Q=>Q M H
def G5:EY X [] Wh:=λ_ _ _ H _ I h=>wpAny_tests_nil ⟨H,I,h⟩
def G6 {t:TT}(h:PT X c t):EY X [c] t:=λpins s L H Q I q=>wpAny_tests_one (h pins s L H Q I q)
end L2
namespace L2
theorem kA {A:Ñ}{R:Result->Ã->Prop}{vi:É}{it bH:F}(I:Nat->Ã->Prop)(turn:∀n s,I n s->Å (Ä prog w) A (pyNext it) (λr s₁=>match r with
   |none=>R (.ok .next) s₁
   |some v=>Å (Ä prog w) A (letOwnedTupleGo vi it v) (λ_ Yz=>Å (Ä prog w) A (assign vi env v) (λ_ s₂=>
     Å (Ä prog w) A (forIn sI M λc r=>if r=M then do let ok ←isTrue c env (Ì c env);pure (ForInStep.yield ok) else pure (ForInStep.yield r)) (λok s₃=>
      if ok=M then Å (Ä prog w) A (Ì elt env) (λx s₄=>
       Å (Ä prog w) A (call (.builtin "list.append") [bH,x]) (λ_ s₅=>∃m,m<n/\I m s₅) (λ_ _=>False) s₄) (λ_ _=>False) s₃
      else ∃m,m<n/\I m s₃) (λ_ _=>False) s₂) (λ_ _=>False) Yz) (λ_ _=>False) s₁) (λ_ _=>False) s)(n:Nat)(h:I n s) :
  ĺ (Ä prog w) A (.compLoop (.ListComp elt [⟨vi,iter,sI,0⟩] scope pos) 0 it bH env) R s:=by
 refine codeAny_loop rfl I (λn s hI=>?_) n h;refine wpAny_noted ?_;rw[compTurn_list];refine À (wpAny_standAt (À (ù (turn n s hI) (λr s₁ h₁=>?_) λ_ _ h'=>h'.elim)));cases r with
 |none=>exact Ë h₁
 |some v=>
  refine À (ù h₁ (λ_ Yz Zk=>?_) λ_ _ h'=>h'.elim);refine À (ù Zk (λ_ s₂ h₂=>À (ù h₂ (λok s₃ h₃=>?_) λ_ _ h'=>h'.elim)) λ_ _ h'=>h'.elim);cases ok with
  |false=>exact Ë ⟨rfl,h₃⟩
  |true=>
   exact À (À (ù h₃ (λx s₄ h₄=>À (ù h₄ (λ_ s₅ h₅=>Ë (Ë ⟨rfl,h₅⟩)) λ_ _ h'=>h'.elim)) λ_ _ h'=>h'.elim))
def Tg (Jq:It)(js:List (Option Nat))(g:rn->TG)(tt:rn->TT)(te:rn->TE)(L:St)(H1:Hp)(P:List V->Hp->Prop):Prop:=
 ∀Yq:rn,∃W:Nat->Nat->List V->Hp->Prop,(∃m,W 0 m [] H1)/\∀i m ys H2,W i m ys H2->
  (Jq.stop i H2/\P ys H2) \/
  (Jq.go i H2/\ys.length<Â/\∃Nx:List V->Hp->Prop,(∀O5 H',Nx O5 H'->∃m',m'<m/\W (i+1) m' O5 H')/\∀x H3,Jq.yld i H2 x H3->g Yq x (CW js L) H3 λL4 H4=>tt Yq L4 H4 λb H5=>
   if b=M then te Yq L4 H5 λy H6=>Nx (ys++[y]) H6 else Nx ys H5)
def Vu (wi:TI)(js:List (Option Nat))(g:rn->TG)(tt:rn->TT)(te:rn->TE):TE:=λL H Q=>wi L H λJq H1=>
 Tg Jq js g tt te L H1 λys H2=>∀p,H2 p=Z->Q (.ref p) (cT H2 p (.lst ys))
theorem selS {js:List (Option Nat)}{L:St}{i:Nat}{v:V}(e:(CW js L)[i]? = J (J v)):∃j,js[i]? = J (J j)/\L[j]? = J (J v):=by
 unfold CW at e;grind
theorem sS {E:F->Ã->Prop}{s2:Ã}{ke:Ā}{g:rn->TG}{tt:rn->TT}{te:rn->TE}{Jq:It}{tn:Nat->Í->Prop}{P:List V->Hp->Prop}{cl:List (Str×G)}{RR:F->G->Result->Ã->Prop}(I:aP X pins L H s2)(hc:X.calm=M)(T:Br X.prog X.w X.K tg Jq fp it tn)(nE:tn 0 s2.heap)(f2:∀b∈fp,rj X pins H b)(vk:∀Yq:rn,PG (fg X scope N Yq) tg (g Yq)/\EY (fg X scope N Yq) sI (tt Yq)/\PE (fg X scope N Yq) elt (te Yq))(S:nK ke X.N scope N js)(kn:X.env.scope=ke)(c1:∀x c,cl.lookup x=J c->X.env.cells.lookup x=J c)(c2:∀x,(x,NameKind.free)∈scope.names->∃c,cl.lookup x=J c)(h:Tg Jq js g tt te L H P)(hR:∀(bH C:G) (ys:List V) (H':Hp) (s':Ã),aP X pins L (cT H' bH (.lst ys)) s'->(∃m,s'.heap.Ns C m)->rj X pins (cT H' bH (.lst ys)) C->H' bH=Z->P ys H'->RR (.ref bH) C (.ok .next) s') :
  Å (Ä X.prog X.w) X.A (newList []) (λbH s₃=>Å (Ä X.prog X.w) X.A (newFunctionEnv scope X.env.globals cl [] X.env.qual Z .none (J X.env)) (λU4 s₄=>
   ĺ (Ä X.prog X.w) X.A (.compStart (.ListComp elt [⟨tg,iter,sI,0⟩] scope pos) 0 (.ref it) bH {U4 with scope:=relabel scope X.env}) (RR bH U4.locals) s₄) E s₃) E s2:=by
 refine ř (wpAny_newFunctionEnv S.nocell (by intro y hy;simp at hy) (λh₁ U5 RU=>?_) S.kind);generalize hH2:s2.heap.push _=H2 at U5 RU |-;have hC:H2.objs.size=s2.heap.objs.size+1:=by rw[<-hH2,Đ]
 have VP:s2.heap.objs.size≠H2.objs.size:=by rw[hC];exact è (δ _)
 have M_:s2.heap.objs.size<=H2.objs.size:=by rw[hC];exact Nat.le_succ _
 have below:∀b,b<s2.heap.objs.size->b≠H2.objs.size/\b≠s2.heap.objs.size:=λb hb=>⟨by rw[hC];exact è (ž hb),è hb⟩;have old:=λb o e=>RU.extBut b o (below b (Û e)).1 (Ö _ (hH2▸Ö _ e));have rN:h₁.PlainList _ #[]:=⟨_,RU.extBut _ _ VP (Ö _ (hH2▸æ _ rfl))⟩;have Xp:∀b∈fp,b<s2.heap.objs.size:=λb hb=>by
  obtain⟨o,e,_⟩:=T.obj _ _ nE b hb;exact Û e
 generalize hCg:H2.objs.size=C at *;generalize hAg:s2.heap.objs.size=bH at *
 let Yq:rn:=⟨C,s2,H,fp,pins,cl⟩
 have ok:(fg X scope N Yq).Ok:=by
  refine⟨I.ok.mod,S.kind,I.ok.glob,I.ok.blt,?_,λx y c e1 e2=>I.ok.inj x y c (c1 x c e1) (c1 y c e2),λx hx=>c2 x (nM S.nocell hx),λx c e=>(by cases e),I.ok.hd,I.ok.frames,.inl rfl,λb hb=>⟨?_,λx c e=>?_⟩,I.bs,ä I.ok.bsz I.sz,λb o e hb=>?_,λb hb hf=>?_,I.stack,I.stkFree⟩
  ·rw[hAg];exact M_
  ·exact (below b (Xp b hb)).1
  ·exact (f2 b hb).2.2.2.2.1 x c (c1 x c e)
  ·rcases (f2 b hb).2.2.2.1 with z|z
   ·exact I.ok.noex b o e z
   ·exact absurd (ć (Û (I.ok.bs b o e).1) z) (ı _)
  ·rcases à.mp (I.stkSub b hf) with z|z
   ·exact (f2 b hb).2.1 z
   ·exact (f2 b hb).2.2.1 z
 have Xq:∀x c,X.env.cells.lookup x=J c->c<bH:=λx c e=>by
  obtain⟨v,q⟩:=I.cell x c e;rw[<-hAg];exact q.lt
 have O4:∀p∈X.pn++pins,p.1<bH:=λp hp=>by rw[<-hAg];exact Û (I.pin p hp).1
 have U6:∀b∈EJ X.stack,b<bH:=λb hb=>by
  obtain⟨_,o,ho,_⟩:=I.stack.mem hb;rw[<-hAg];exact Û ho
 have U7:∀p∈X.pn++pins,p.1∉EJ X.stack:=λp hp hf=>by
  rcases à.mp (I.stkSub _ hf) with z|z
  ·exact (I.pin p hp).2.2.1 z
  ·exact (I.pin p hp).2.2.2.1 z
 have Xt:∀{i:Nat} {x:Str} {v:V},N[i]? = J x->(CW js L)[i]? = J (J v)->∃u c o,bE v u/\scope.names.lookup x=J .free/\cl.lookup x=J c/\s2.heap.get? c=J o/\o.data=.cell (J u):=λ{i x v} e1 e2=>by
  obtain⟨j,hj,e5⟩:=selS e2;obtain⟨nx,fr⟩:=S.cap i j x hj e1
  obtain⟨m,hn,hl⟩:=I.loc;have kx:X.env.scope.names.lookup x=J .cell\/X.env.scope.names.lookup x=J .free:=by rw[kn];exact S.free x (ŗ fr)
  obtain⟨u,r,lk⟩:=hl j x v nx e5 (.inr kx);obtain⟨c,hcl⟩:=c2 x (ŗ fr);rcases lk with⟨k,_⟩|⟨k,c',e',z⟩
  ·have k':X.env.scope.names.lookup x=J .local:=k;rcases kx with q|q<;>· rw[q] at k';cases k'
  ·have:=by
    have:=c1 x c hcl;rw[e'] at this;exact ó this
   subst this;obtain⟨o,ho,hd⟩:=z;exact⟨u,c',o,r,fr,hcl,ho,hd⟩
 have EC:H bH=Z:=by rw[<-hAg];exact I.hok.fresh (Ð _)
 have Zl:=I.hok.fresh (by rw[hAg];exact M_);have I4:∀tk ,aP _ [] (CW js L) H {s2 with heap:=h₁,toks:=tk}:=λtk=>by
  refine⟨ok,rfl,I.bare,Un.kept old,⟨_,U5,λi x v e1 e2 e3=>?_⟩,λx c e=>?_,Zl,λx c e=>I.freeC x c (c1 x c e),λp hp=>?_,I.hok.kept old,?_⟩
  ·obtain⟨u,c,o,r,fr,hcl,ho,hd⟩:=Xt e1 e2;exact⟨u,r,.inr ⟨eo fr,c,hcl,o,old _ _ ho,hd⟩⟩
  ·obtain⟨v,o,ho,hd⟩:=I.cell x c (c1 x c e);exact⟨v,o,old _ _ ho,hd⟩
  ·have Bo:p∈X.pn++pins:=by simpa using hp
   obtain⟨q1,q2,q3,q4,q5⟩:=I.pin p Bo;exact⟨old _ _ q1,q2,λz=>absurd (O4 p Bo) (by rw[z];exact Nat.not_lt.mpr M_),U7 p Bo,q5⟩
  ·unfold CW;rw[Æ];exact S.len
 obtain⟨hg,ht,he⟩:=vk Yq;obtain⟨W,⟨m0,w0⟩,turn⟩:=h Yq;have Xr:∀{H':Hp} {pl:List _},H' bH=Z->(∀p∈pl,p.1≠bH)->rj (fg X scope N Yq) pl H' bH:=λ{H' pl} hn hp=>by
  refine⟨hn,VP,λz=>absurd (U6 _ z) (ı _),.inr (by rw[hAg];exact Ð _),λx c e=>è (Xq x c (c1 x c e)),λp Bo=>?_⟩;rcases ñ.mp Bo with z|z
  ·exact è (O4 p z)
  ·exact hp p z
 have Xs:∀{H':Hp} {pl:List _},(∀b∈fp,H' b=Z)->(∀p∈pl,p.1∉fp)->∀b∈fp,rj (fg X scope N Yq) pl H' b:=λ{H' pl} hn hp b hb=>by
  refine⟨hn b hb,(below b (Xp b hb)).1,λz=>?_,.inl hb,λx c e=>(f2 b hb).2.2.2.2.1 x c (c1 x c e),λp Bo=>?_⟩
  ·rcases à.mp (I.stkSub b z) with q|q
   ·exact (f2 b hb).2.1 q
   ·exact (f2 b hb).2.2.1 q
  ·rcases ñ.mp Bo with z|z
   ·exact (f2 b hb).2.2.2.2.2 p z
   ·exact λe=>hp p z (by rw[e];exact hb)
 have YA:bH∉fp:=λz=>absurd (Xp bH z) (by intro q;exact ı _ q)
 have U8:∀{pl:List _} {L':St} {H':Hp} {s':Ã},aP _ pl L' H' s'->aP (fg X scope N Yq) pl _ H' s':=λ{pl L' H' s'} K=>by
  refine⟨K.ok,K.os,K.bare,K.base,?_,K.cell,K.free,K.freeC,K.pin,K.hok,?_⟩
  ·obtain⟨m,hn,_⟩:=K.loc;refine⟨m,hn,λi x v e1 e2 e3=>?_⟩;obtain⟨u,c,o,r,fr,hcl,ho,hd⟩:=Xt e1 e2;refine⟨u,r,.inr ⟨eo fr,c,hcl,?_⟩⟩;obtain⟨sl,q⟩:=K.base.any ho (I.freeC x c (c1 x c hcl)) λz=>(f2 c z).2.2.2.2.1 x c (c1 x c hcl) rfl;exact⟨_,q,hd⟩
  ·unfold CW;rw[Æ];exact S.len
 have loop:∀tk ,ĺ (Ä X.prog X.w) X.A (.compLoop (.ListComp elt [⟨tg,iter,sI,0⟩] scope pos) 0 (.ref it) (.ref bH) (compEnvC scope cl C X.env)) (RR (.ref bH) C) {s2 with heap:=h₁,toks:=tk}:=by
  intro tk;refine kA (λn s'=>∃(i:Nat) (ys:List V) (its:List F) (H':Hp),aP _ [] _ H' s'/\tn i s'.heap/\(∀b∈fp,H' b=Z)/\H' bH=Z/\s'.heap.PlainList bH its.toArray/\bf ys its/\ys.length<=Â/\W i n ys H') ?_ m0
   ⟨0,[],[],H,I4 tk,T.keep _ _ _ nE (λb hb o e=>old b o e),λb hb=>(f2 b hb).1,EC,rN,.nil,Ħ _,w0⟩
  rintro n s3 ⟨i,ys,its,H3,I3,K3,fr3,na3,⟨nn,ea⟩,vq,hz3,w3⟩;have RV:∀p∈[(bH,({cls:=.type "list",data:=.seq its.toArray nn}:Obj))],p.1∉fp:=λp hp=>by
   have e:=by simpa using hp
   rw[e];exact YA
  have Ip:aP _ [(bH,({cls:=.type "list",data:=.seq _ nn}:Obj))] _ H3 s3:=I3.pins_of λp hp=>by
   have e:=by simpa using hp
   subst e;exact⟨ea,na3,VP,λz=>absurd (U6 _ z) (ı _),λv z=>by cases z⟩
  rcases turn i n ys H3 w3 with⟨stop,p⟩|⟨go,CB,Nx,hNx,step⟩
  ·refine ù (T.done (fg X scope N Yq) rfl rfl rfl hc i _ s3 _ H3 _ Ip (Xs fr3 RV) K3 stop) (λr s4 U9=>?_) λ_ _ z=>z;obtain⟨hr,J4⟩:=U9;subst hr;have pa:=(J4.pin _ (Ē _ Ú)).1;have u:Un _ fp H (cT H3 bH (.lst ys)) s2.heap s4.heap:=
    ⟨J4.base.keep,J4.base.slot,λb o e nb hx=>by rw[aL (below b (by rw[<-hAg];exact Û e)).2];exact J4.base.free b o e nb hx,J4.base.there,
     λb xs e=>by rw[aL (cu e EC)];exact J4.base.tups b xs e,λb o w' e=>by rw[aL (cu e EC)];exact J4.base.frzs b o w' e,λb ps e=>by rw[aL (cu e EC)];exact J4.base.tbls b ps e⟩
   have hok:pb X.prog X.w (cT H3 bH (.lst ys)) s4.heap:=λb o e=>by
    by_cases hb:b=bH
    ·subst hb;rw[aW] at e;cases e;exact⟨hz3,its,nn,vq,pa⟩
    ·rw[aL hb] at e;refine (J4.hok b o e).stay (λ_ _ _ q=>q) (λc q=>?_) λc xs q=>?_
     ·rw[aL (cu q na3)];exact q
     ·rw[aL (cu q na3)];exact q
   have Xu:=I.call' J4.os u hok J4.bare λb hb=>⟨(f2 b hb).2.2.2.1,(f2 b hb).2.1,(f2 b hb).2.2.2.2.1,(f2 b hb).2.2.2.2.2⟩;have Zm:∃m,s4.heap.Ns C m:=by obtain⟨m,hn,_⟩:=J4.loc;exact⟨m,hn⟩
   exact hR bH C ys H3 s4 Xu Zm (I.fpOk (by rw[hAg];exact M_) (by rw[aL (Ĝ VP)];exact J4.free)) na3 p
  ·refine ù (T.item (fg X scope N Yq) rfl rfl rfl hc i _ s3 _ H3 _ Ip (Xs fr3 RV) K3 go) (λr s4 h4=>?_) λ_ _ z=>z;obtain⟨u,hr,h4⟩:=h4;subst hr;refine ù h4 (λ_ s5 h5=>?_) λ_ _ z=>z;obtain⟨x,H5,I5,r5,y5,st5,fr5⟩:=h5;have Xg:=I5.pinned (Xs fr5 RV) (T.obj _ _ st5);refine ù (hg _ s5 _ H5 x u _ Xg r5 (step x H5 y5)) (λ_ s6 h6=>?_) λ_ _ z=>z;obtain⟨L6,H6,I6,q6⟩:=h6;refine ù (ht _ s6 L6 H6 _ I6 q6) (λb s7 h7=>?_) λ_ _ z=>z;obtain⟨H7,I7,q7⟩:=h7;have U_:∀{H8:Hp} {L8:St} {s8:Ã},aP (fg X scope N Yq) ([(bH,({cls:=.type "list",data:=.seq its.toArray nn}:Obj))]++xo fp s5.heap) L8 H8 s8->
     s8.heap.get? bH=J _/\H8 bH=Z/\(∀b∈fp,H8 b=Z)/\(∀b∈fp,∀o,s5.heap.get? b=J o->s8.heap.get? b=J o):=λ{H8 L8 s8} K=>by
    have q:=K.pin _ (Ē _ (ŷ _ Ú));refine⟨q.1,q.2.1,λb hb=>?_,λb hb o e=>(K.pin (b,o) (Ē _ (Ē _ (jB hb e)))).1⟩;obtain⟨o,e,d⟩:=T.obj _ _ st5 b hb;exact (K.pin (b,o) (Ē _ (Ē _ (jB hb e)))).2.1
   have Kx:∀{H8:Hp} {L8:St} {s8:Ã} {pl:List _},aP _ pl L8 H8 s8->aP (fg X scope N Yq) [] L8 H8 s8:=λK=>K.pins_of λp hp=>absurd hp (by simp);cases b with
   |false=>
    obtain⟨m',hm,w7⟩:=hNx _ _ q7;obtain⟨p1,p2,p3,p4⟩:=U_ I7;exact⟨m',hm,i+1,ys,its,H7,U8 (Kx I7),T.keep _ _ _ st5 p4,p3,p2,⟨nn,p1⟩,vq,hz3,w7⟩
   |true=>
    refine ù (he _ s7 L6 H7 _ I7 q7) (λv s8 h8=>?_) λ_ _ z=>z;obtain⟨y,H8,I8,r8,q8⟩:=h8;obtain⟨m',hm,w8⟩:=hNx _ _ q8;obtain⟨p1,p2,p3,p4⟩:=U_ I8;refine wpAny_list_append_plain ⟨nn,p1⟩ (λh' Zn sb=>?_) (by rw[ë,<-vq.length];exact hz3);obtain⟨f0,f1,f2',f3,f4,f5⟩:=Xr (pl:=[]) p2 (by simp);have I9:=(Kx I8).turned (t':=s8.toks) (λb o hb e=>(sb.2 b hb).trans e) f0 f1 f3 f4 f5;refine⟨m',hm,i+1,ys++[y],its++[v],H8,U8 I9,T.keep _ _ _ st5 (λb hb o e=>(sb.2 b (λz=>YA (z▸hb))).trans (p4 b hb o e)),p3,p2,?_,vq.append (.cons r8 .nil),?_,w8⟩
    ·grind
    ·rw[Þ];exact CB
 exact codeAny_compStart_list (loop _) (T.self _ _ _ _ _ (T.keep _ _ _ nE (λb hb o e=>old b o e)) (loop _))
def sT {ke:Ā}(I:aP X pins L H s)(S:nK ke X.N scope N js)(kn:X.env.scope=ke) :
  ∃cl:List (Str×G),closureFor scope X.env=pure cl/\(∀x c,cl.lookup x=J c->X.env.cells.lookup x=J c)/\∀x,(x,NameKind.free)∈scope.names->∃c,cl.lookup x=J c:=
 BE λx hx=>I.ok.has x (by
  have:=S.free x hx;rw[<-kn] at this;exact this)
theorem Nn {g:rn->TG}{tt:rn->TT}{te:rn->TE}(ke:Ā)(NX N:List Str)(js:List (Option Nat))(hc:X.calm=M)(hi:PI X tg iter wi)(vk:∀Yq:rn,PG (fg X scope N Yq) tg (g Yq)/\EY (fg X scope N Yq) sI (tt Yq)/\PE (fg X scope N Yq) elt (te Yq))(kn:X.env.scope=ke:=by rfl)(Ky:X.N=NX:=by rfl)(hS:sR ke NX scope N js=M:=by decide+kernel)(hs:∀x,Ō iter X.env x=pure x:=by intro _;rfl):PE X (.ListComp elt [⟨tg,iter,sI,0⟩] scope pos) (Vu wi js g tt te):=by
 intro pins s L H Q I h;have S:nK ke X.N scope N js:=by rw[Ky];exact sR.to hS
 obtain⟨cl,e1,e2,e3⟩:=sT I S kn;refine wpAny_comprehension_free rfl hs e1 S.kind S.loc (cU (hi pins s L H _ I h) λv s1 h1=>cU h1 λVN s2 h2=>?_);obtain⟨it,fp,tn,Jq,H2,e,I2,T,nE,f2,q⟩:=h2;subst e;refine sS I2 hc T nE f2 vk S kn e2 e3 q ?_;intro bH C ys H' s' I' ns fC na p;obtain⟨m,hn⟩:=ns;obtain⟨f0,f1,f2',f3,f4,f5⟩:=fC;exact⟨m,hn,λh' sb=>⟨.ref bH,_,I'.turned (λb o hb e=>(sb.2 b hb).trans e) f0 f1 f3 f4 f5,rfl,p bH na⟩⟩
theorem y7 {j5:Pos}{g:rn->TG}{tt:rn->TT}{te:rn->TE}(ke:Ā)(NX N:List Str)(js:List (Option Nat))(hN:X.N.Nodup)(hx:X.N[i]? = J x)(hl:CI X.env.scope x)(hc:X.calm=M)(hi:PI X tg iter wi)(vk:∀Yq:rn,PG (fg X scope N Yq) tg (g Yq)/\EY (fg X scope N Yq) sI (tt Yq)/\PE (fg X scope N Yq) elt (te Yq))(kn:X.env.scope=ke:=by rfl)(Ky:X.N=NX:=by rfl)(hS:sR ke NX scope N js=M:=by decide+kernel)(hw:Ĭ (.ListComp elt [⟨tg,iter,sI,0⟩] scope j5) (J (.Name x pos')) pos.line X.env=pure M:=by rfl)(hf:X.fn x=M\/X.env.scope.names.lookup x=J .local:=by first|exact .inl rfl|exact .inr rfl|assumption)(hs:∀x,Ō iter X.env x=pure x:=by intro _;rfl) :
  PS X (.Assign [.Name x pos'] (.ListComp elt [⟨tg,iter,sI,0⟩] scope j5) pos) (yX (Vu wi js g tt te) (qf i)):=by
 intro pins s L H D I h;have S:nK ke X.N scope N js:=by rw[Ky];exact sR.to hS
 obtain⟨cl,e1,e2,e3⟩:=sT I S kn;rw[exec_Assign_Name_used _ _ _ _ hw];refine À (wpAny_standAt (À ?_));refine À (ù (wpAny_comprehension_free rfl hs e1 S.kind S.loc
  (cU (hi pins s L H _ I h) λv s1 h1=>cU h1 λVN s2 h2=>?_)) (λ_ s' hq=>Ë (Ë hq)) λ_ _ e=>e)
 obtain⟨it,fp,tn,Jq,H2,e,I2,T,nE,f2,q⟩:=h2;subst e;refine sS I2 hc T nE f2 vk S kn e2 e3 q ?_;intro bH C ys H' s' I' ns fC na p;obtain⟨m,hn⟩:=ns;obtain⟨f0,f1,f2',f3,f4,f5⟩:=fC;refine wpAny_assign_Name (vY I' hN hx hl (v:=.ref bH) rfl (λRQ Zo Zq=>?_) hf);obtain⟨a,sb,ha⟩:=Zq;have aC:C≠a:=by
  rcases ha with ha|ha
  ·rw[ha];exact f1
  ·exact λz=>f4 x a ha z.symm
 refine⟨m,hn.sameBut sb aC,λh' Zr=>⟨_,_,Zo.turned (λb o hb e=>(Zr.2 b hb).trans e) f0 f1 f3 f4 f5,?_⟩⟩;exact p bH na
def Th (Jq:It)(g:TG)(tb:TS)(D:mN)(L:St)(H1:Hp):Prop:=∃W:Nat->Nat->St->Hp->Prop,(∃m,W 0 m L H1)/\∀i m L H,W i m L H->
 (Jq.stop i H/\D.nx L H)\/(Jq.go i H/\∃N:St->Hp->Prop,(∀L' H',N L' H'->∃m',m'<m/\W (i+1) m' L' H')/\∀x H',Jq.yld i H x H'->g x L H' λL2 H2=>tb {D with nx:=N,ct:=N,bk:=D.nx} L2 H2)
def Ti (wi:TI)(g:TG)(tb:TS):TS:=λD L H=>wi L H λJq H1=>Th Jq g tb D L H1
def Lv {g:TG}{tb:TS}(hp:Μ (Ä X.prog X.w) X.A X.env X.xe)(hc:X.calm=M)(hi:PI X tg iter wi)(hg:PG X tg g)(hb:vy X body tb)(hs:∀x,Ō iter X.env x=pure x:=by intro _;rfl):PS X (.For tg iter body [] pos) (Ti wi g tb):=Pq hp hc hi hg hb hs
end L2
namespace L2
inductive D where
 |non|bl (b:Bool)|int (i:Int)|str (x:Str)|tup (xs:List D)|lst (xs:List D)
instance:Inhabited D:=⟨.non⟩
mutual
def i6 (K:Ê)(H:Hp):D->V->Prop
 | .non,v=>v=.non
 | .bl b,v=>v=.bl b
 | .int i,v=>v=.int i
 | .str x,v=>v=.str x
 | .tup ds,v=>∃a xs,v=.ref a/\fE K H a xs/\fY K H ds xs
 | .lst ds,v=>∃a xs,v=.ref a/\eI K H a xs/\fY K H ds xs
def fY (K:Ê)(H:Hp):List D->List V->Prop
 | [],xs=>xs=[]
 |d::ds,xs=>∃x r,xs=x::r/\i6 K H d x/\fY K H ds r
end
mutual
noncomputable def i7:D->D->Bool
 | .non,.non=>M
 | .bl a,.bl b=>a==b
 | .bl a,.int b=>(if a then 1 else 0)==b
 | .int a,.bl b=>a==(if b then 1 else 0)
 | .int a,.int b=>a==b
 | .str a,.str b=>a==b
 | .tup xs,.tup ys=>kh xs ys
 | .lst xs,.lst ys=>kh xs ys
 |_,_=>Y
noncomputable def kh:List D->List D->Bool
 | [],[]=>M
 |x::xs,y::ys=>i7 x y&&kh xs ys
 |_,_=>Y
end
mutual
noncomputable def du:D->Nat
 | .tup xs=>jn xs+1
 | .lst xs=>jn xs+1
 |_=>0
noncomputable def jn:List D->Nat
 | []=>0
 |x::xs=>max (du x) (jn xs)
end
theorem fY.length {K:Ê}{H:Hp}:∀{ds:List D} {xs:List V},fY K H ds xs->ds.length=xs.length
 | [],_,h=>by subst h;rfl
 |d::ds,_,h=>by
  obtain⟨x,r,rfl,_,q⟩:=h;rw[Ò,Ò,fY.length q]
theorem fY.get {K:Ê}{H:Hp}:∀{ds:List D} {xs:List V} {i:Nat} {d:D} {x:V},fY K H ds xs->ds[i]? = J d->xs[i]? = J x->i6 K H d x
 | [],_,_,_,_,_,e,_=>by simp at e
 |d::ds,_,i,d',x',h,e1,e2=>by
  obtain⟨x,r,rfl,p,q⟩:=h;cases i with
  |zero=>simp at e1 e2;subst e1 e2;exact p
  |succ i=>exact fY.get q (by simpa using e1) (by simpa using e2)
theorem lH:∀{ds:List D} {i:Nat} {d:D},ds[i]? = J d->du d<=jn ds
 | [],_,_,e=>by simp at e
 |d::ds,i,d',e=>by
  cases i with
  |zero=>simp at e;subst e;exact Nat.le_max_left _ _
  |succ i=>exact ä (lH (by simpa using e)) (Nat.le_max_right _ _)
def nN (xs ys:List D)(j:Nat):Bool:=match xs[j]?,ys[j]? with
 |some a,J b=>i7 a b
 |_,_=>M
theorem jo:∀(xs ys:List D),((ê (min xs.length ys.length)).all (nN xs ys)&&xs.length==ys.length)=kh xs ys
 | [],[]=>by simp[kh]
 | [],_::_=>by simp[kh]
 |_::_,[]=>by simp[kh]
 |x::xs,y::ys=>by
  have ih:=jo xs ys;unfold kh;rw[<-ih,Ò,Ò,Nat.add_min_add_right,List.range_succ_eq_map,Œ,υ];have e0:nN (x::xs) (y::ys) 0=i7 x y:=rfl;have e1:(nN (x::xs) (y::ys)∘Nat.succ)=nN xs ys:=by funext j;simp[nN]
  rw[e0,e1,Bool.and_assoc];simp
def y8 {xs ys:List D}(h:xs.length≠ys.length):kh xs ys=Y:=by
 rw[<-jo,show (xs.length==ys.length)=Y from by simpa using h,Δ]
mutual
theorem sU:∀d:D,i7 d d=M
 | .non=>rfl
 | .bl b=>by unfold i7;simp
 | .int b=>by unfold i7;simp
 | .str b=>by unfold i7;simp
 | .tup xs=>by unfold i7;exact pD xs
 | .lst xs=>by unfold i7;exact pD xs
theorem pD:∀ds:List D,kh ds ds=M
 | []=>rfl
 |d::ds=>by unfold kh;rw[sU d,pD ds];rfl
end
theorem Tj {ys:List V}(I:aP X pins L H s)(h:eI X.K H a xs)(h':fE X.K H a ys):False:=by
 obtain⟨its,_,p,_⟩:=I.list h;obtain⟨rM,_,q,_⟩:=I.tuple h';exact absurd rfl (SeqAt.ne_of_list_tuple p.isList q)
theorem y9 (I:aP X pins L H s):∀n d1 d2 x,du d1<=n->i6 X.K H d1 x->i6 X.K H d2 x->i7 d1 d2=M:=by
 have lists:∀n,(∀d1 d2 x,du d1<=n->i6 X.K H d1 x->i6 X.K H d2 x->i7 d1 d2=M)->∀(ds es:List D) (xs:List V),jn ds<=n->fY X.K H ds xs->fY X.K H es xs->kh ds es=M:=by
  intro n ih ds
  induction ds with
  |nil=>
   intro es xs _ h1 h2;subst h1;cases es with
   |nil=>rfl
   |cons e es=>obtain⟨x,r,e',_⟩:=h2;cases e'
  |cons d ds ihd=>
   intro es xs hd h1 h2;obtain⟨x,r,rfl,p,q⟩:=h1;cases es with
   |nil=>cases h2
   |cons e es=>
    obtain⟨x',r',e',p',q'⟩:=h2;cases e';unfold kh;rw[ih d e x (ä (Nat.le_max_left _ _) hd) p p',ihd es r (ä (Nat.le_max_right _ _) hd) q q'];rfl
 intro n
 induction n with
 |zero=>
  intro d1 d2 x hd h1 h2;have fl:∀d,i6 X.K H d x->(∃a,x=.ref a)\/(d=.non/\x=.non)\/(∃b,d=.bl b/\x=.bl b)\/(∃b,d=.int b/\x=.int b)\/∃b,d=.str b/\x=.str b:=λd h=>by
   cases d with
   |non=>exact .inr (.inl ⟨rfl,h⟩)
   |bl b=>exact .inr (.inr (.inl ⟨b,rfl,h⟩))
   |int b=>exact .inr (.inr (.inr (.inl ⟨b,rfl,h⟩)))
   |str b=>exact .inr (.inr (.inr (.inr ⟨b,rfl,h⟩)))
   |tup ds=>obtain⟨a,_,e,_⟩:=h;exact .inl ⟨a,e⟩
   |lst ds=>obtain⟨a,_,e,_⟩:=h;exact .inl ⟨a,e⟩
  have nr:¬∃a,x=.ref a:=λh00=>by
   obtain⟨a,e⟩:=h00;subst e;cases d1 with
   |tup ds=>grind[du]
   |lst ds=>grind[du]
   |_=>cases h1
  have f1:=fl d1 h1;have f2:=fl d2 h2;rcases f1 with f1|⟨rfl,rfl⟩|⟨b,rfl,rfl⟩|⟨b,rfl,rfl⟩|⟨b,rfl,rfl⟩
  ·exact absurd f1 nr
  all_goals
   rcases f2 with f2|⟨rfl,f2⟩|⟨c,rfl,f2⟩|⟨c,rfl,f2⟩|⟨c,rfl,f2⟩
   ·exact absurd f2 nr
   all_goals first|(cases f2;exact sU _)|cases f2
 |succ n ih=>
  intro d1 d2 x hd h1 h2;cases d1 with
  |tup ds=>
   obtain⟨a,xs,rfl,hs,hr⟩:=h1;cases d2 with
   |tup es=>
    obtain⟨a',xs',e,mK,hr'⟩:=h2;cases e;have:=I.tuple_inj hs mK;subst this;exact lists n ih ds es xs (by grind[du]) hr hr'
   |lst es=>
    obtain⟨a',xs',e,mK,hr'⟩:=h2;cases e;exact (Tj I mK hs).elim
   |_=>cases h2
  |lst ds=>
   obtain⟨a,xs,rfl,hs,hr⟩:=h1;cases d2 with
   |lst es=>
    obtain⟨a',xs',e,mK,hr'⟩:=h2;cases e;have:=I.list_inj hs mK;subst this;exact lists n ih ds es xs (by grind[du]) hr hr'
   |tup es=>
    obtain⟨a',xs',e,mK,hr'⟩:=h2;cases e;exact (Tj I hs mK).elim
   |_=>cases h2
  |_=>exact ih _ d2 x (by exact Ħ _) h1 h2
inductive PQ (K:Ê)(H:Hp)(s:Ã):D->V->F->Prop
 |non:PQ K H s .non .non .none
 |bl (b:Bool):PQ K H s (.bl b) (.bl b) (.bool b)
 |int (i:Int) (t:Tok):PQ K H s (.int i) (.int i) (.int i t)
 |str (x:Str) (t:Tok):PQ K H s (.str x) (.str x) (.str x t)
 |tup {ds:List D} {a:G} {xs:List V} {its:List F} (hs:fE K H a xs) (hr:fY K H ds xs) (rv:bf xs its) (p:IsTup s.heap a its.toArray):PQ K H s (.tup ds) (.ref a) (.ref a)
 |lst {ds:List D} {a:G} {xs:List V} {its:List F} (hs:eI K H a xs) (hr:fY K H ds xs) (rv:bf xs its) (p:s.heap.IsList a its.toArray):PQ K H s (.lst ds) (.ref a) (.ref a)
theorem Sn (I:aP X pins L H s):∀{d:D} {x:V} {u:F},i6 X.K H d x->bE x u->PQ X.K H s d x u:=by
 intro d x u h r;cases d<;>unfold i6 at h
 case tup=>obtain⟨a,xs,rfl,hs,hr⟩:=h;cases r;obtain⟨its,rv,p,_⟩:=I.tuple hs;exact .tup hs hr rv p
 case lst=>obtain⟨a,xs,rfl,hs,hr⟩:=h;cases r;obtain⟨its,rv,p,_⟩:=I.list hs;exact .lst hs hr rv p.isList
 all_goals subst h
 case non=>cases r;exact .non
 case bl=>cases r;exact .bl _
 case int=>obtain⟨t,rfl⟩:=r;exact .int _ _
 case str=>obtain⟨t,rfl⟩:=r;exact .str _ _
section
variable {A:Ñ}{ds es:List D}{Kz KA:List V}{i1 i2:List F}
theorem wq (v1:bf Kz i1)(v2:bf KA i2)(r1:fY X.K H ds Kz)(r2:fY X.K H es KA)(f:∀(j:Nat) (d e:D) (x y:V) (u v:F),ds[j]? = J d->i6 X.K H d x->i6 X.K H e y->bE x u->bE y v->ŉ A s u v (i7 d e)) :
  ∀j (h1:j<i1.toArray.size) (h2:j<i2.toArray.size),ŉ A s i1.toArray[j] i2.toArray[j] (nN ds es j):=λj g1 g2=>by
 have l1:=v1.length;have l2:=v2.length;have k1:=r1.length;have k2:=r2.length;rw[ë] at g1 g2;have q1:ds[j]? = J _:=Ø (by simp[*]);have q2:es[j]? = J _:=Ø (by simp[*]);have e1:Kz[j]? = J _:=Ø (by simp[*]);have e2:KA[j]? = J _:=Ø (by simp[*]);obtain⟨u1,z1,w1⟩:=v1.get e1;obtain⟨u2,z2,w2⟩:=v2.get e2;have y1:i1.toArray[j]=u1:=by obtain⟨_,q⟩:=ċ.mp z1;simpa using q
 have y2:i2.toArray[j]=u2:=by obtain⟨_,q⟩:=ċ.mp z2;simpa using q
 have:nN ds es j=i7 ds[j] es[j]:=by unfold nN;rw[q1,q2]
 rw[y1,y2,this];exact f j _ _ _ _ _ _ q1 (r1.get q1 e1) (r2.get q2 e2) w1 w2
variable (v1:bf Kz i1)(v2:bf KA i2)(r1:fY X.K H ds Kz)(r2:fY X.K H es KA)(hu:A.units<î)(he:∀j (h1:j<i1.toArray.size) (h2:j<i2.toArray.size),ŉ A.in1 s i1.toArray[j] i2.toArray[j] (nN ds es j))
include v1 v2 r1 r2 hu he
theorem wt:i1.toArray.size=ds.length/\i2.toArray.size=es.length:=by rw[ë,ë,<-v1.length,<-v2.length,r1.length,r2.length];exact⟨rfl,rfl⟩
theorem G7 (p1:IsTup s.heap a1 i1.toArray)(p2:IsTup s.heap a2 i2.toArray):SeqAt.RcAt A s (.ref a1) (.ref a2) (i7 (.tup ds) (.tup es)):=by
 have q:=SeqAt.RcAt.tuples p1 p2 hu he;rw[(wt v1 v2 r1 r2 hu he).1,(wt v1 v2 r1 r2 hu he).2,jo] at q;exact q
theorem G8 (p1:IsTup s.heap a1 i1.toArray)(p2:IsTup s.heap a2 i2.toArray):afK A s (.ref a1) (.ref a2) (!i7 (.tup ds) (.tup es)):=by
 have q:=SeqAt.RcNeAt.tuples p1 p2 hu he;rw[(wt v1 v2 r1 r2 hu he).1,(wt v1 v2 r1 r2 hu he).2,jo] at q;exact q
theorem G9 (p1:s.heap.IsList a1 i1.toArray)(p2:s.heap.IsList a2 i2.toArray):SeqAt.RcAt A s (.ref a1) (.ref a2) (i7 (.lst ds) (.lst es)):=by
 obtain⟨l1,l2⟩:=wt v1 v2 r1 r2 hu he;unfold i7;by_cases hl:ds.length=es.length
 ·have q:=SeqAt.RcAt.lists p1 p2 (by rw[l1,l2,hl]) hu he;have z:=jo ds es;rw[hl,Nat.min_self,beq_self_eq_true,ώ] at z;rw[l1,hl,z] at q;exact q
 ·rw[y8 hl];exact SeqAt.RcAt.lists_lengths p1 p2 (by rw[l1,l2];simpa using hl) hu
theorem G_ (p1:s.heap.IsList a1 i1.toArray)(p2:s.heap.IsList a2 i2.toArray):afK A s (.ref a1) (.ref a2) (!i7 (.lst ds) (.lst es)):=by
 obtain⟨l1,l2⟩:=wt v1 v2 r1 r2 hu he;unfold i7;by_cases hl:ds.length=es.length
 ·have q:=SeqAt.RcNeAt.lists p1 p2 (by rw[l1,l2,hl]) hu he;have z:=jo ds es;rw[hl,Nat.min_self,beq_self_eq_true,ώ] at z;rw[l1,hl,z] at q;exact q
 ·rw[y8 hl];exact SeqAt.RcNeAt.lists_lengths p1 p2 (by rw[l1,l2];simpa using hl) hu
end
theorem BF (I:aP X pins L H s):∀(n:Nat) (d1 d2:D) (x y:V) (u v:F) (A:Ñ),du d1<=n->A.units+n<î->i6 X.K H d1 x->i6 X.K H d2 y->bE x u->bE y v->ŉ A s u v (i7 d1 d2):=by
 intro n
 induction n using Nat.strongRecOn with|ind n ih=>
 intro d1 d2 x y u v A hd hu h1 h2 r1 r2;have eY:A.units<î:=by lia
 have hi:∀{ds:List D} {j:Nat} {d e:D} {x y:V} {u v:F},jn ds+1<=n->ds[j]? = J d->i6 X.K H d x->i6 X.K H e y->bE x u->bE y v->ŉ A.in1 s u v _:=λ{ds j d e x y u v} hn q a b c d'=>ih (n-1) (by lia) _ _ _ _ _ _ _ (by have:=lH q;lia) (by lia) a b c d';cases Sn I h1 r1<;>cases Sn I h2 r2
 ·exact SeqAt.EqAt.same _
 ·exact SeqAt.EqAt.none_bool _
 ·exact SeqAt.EqAt.none_int _ _
 ·exact SeqAt.EqAt.none_str _ _
 ·exact SeqAt.EqAt.none_tuple ‹_› eY
 ·exact SeqAt.EqAt.none_list ‹_› eY
 ·exact SeqAt.EqAt.bool_none _
 ·exact SeqAt.EqAt.bool_bool _ _
 ·exact SeqAt.EqAt.bool_int _ _ _
 ·exact SeqAt.EqAt.bool_str _ _ _
 ·exact SeqAt.EqAt.bool_tuple _ ‹_› eY
 ·exact SeqAt.EqAt.bool_list _ ‹_› eY
 ·exact SeqAt.EqAt.int_none _ _
 ·exact SeqAt.EqAt.int_bool _ _ _
 ·exact SeqAt.EqAt.int_int _ _ _ _
 ·exact SeqAt.EqAt.int_str _ _ _ _
 ·exact SeqAt.EqAt.int_tuple _ _ ‹_› eY
 ·exact SeqAt.EqAt.int_list _ _ ‹_› eY
 ·exact SeqAt.EqAt.str_none _ _
 ·exact SeqAt.EqAt.str_bool _ _ _
 ·exact SeqAt.EqAt.str_int _ _ _ _
 ·exact SeqAt.EqAt.str_str _ _ _ _
 ·exact SeqAt.EqAt.str_tuple _ _ ‹_› eY
 ·exact SeqAt.EqAt.str_list _ _ ‹_› eY
 ·exact SeqAt.EqAt.tuple_none ‹_› eY
 ·exact SeqAt.EqAt.tuple_bool _ ‹_› eY
 ·exact SeqAt.EqAt.tuple_int _ _ ‹_› eY
 ·exact SeqAt.EqAt.tuple_str _ _ ‹_› eY
 ·rename_i ds a1 Kz i1 jA rO vv p1 es a2 KA i2 iK lD nF p2;by_cases Ge:a1=a2
  ·subst Ge;rw[y9 I n _ _ _ hd h1 h2];exact SeqAt.EqAt.same _
  ·exact SeqAt.EqAt.of_refs Ge (G7 vv nF rO lD eY (wq vv nF rO lD λ_ _ _ _ _ _ _ q=>hi (by unfold du at hd;lia) q) p1 p2)
 ·exact SeqAt.EqAt.tuple_list ‹_› ‹_› eY
 ·exact SeqAt.EqAt.list_none ‹_› eY
 ·exact SeqAt.EqAt.list_bool _ ‹_› eY
 ·exact SeqAt.EqAt.list_int _ _ ‹_› eY
 ·exact SeqAt.EqAt.list_str _ _ ‹_› eY
 ·exact SeqAt.EqAt.list_tuple ‹_› ‹_› eY
 ·rename_i ds a1 Kz i1 jA rO vv p1 es a2 KA i2 iK lD nF p2;by_cases Ge:a1=a2
  ·subst Ge;rw[y9 I n _ _ _ hd h1 h2];exact SeqAt.EqAt.same _
  ·exact SeqAt.EqAt.of_refs Ge (G9 vv nF rO lD eY (wq vv nF rO lD λ_ _ _ _ _ _ _ q=>hi (by unfold du at hd;lia) q) p1 p2)
theorem PR (I:aP X pins L H s)(n:Nat)(d1 d2:D)(x y:V)(u v:F)(A:Ñ)(hd:du d1<=n)(hu:A.units+n<î)(h1:i6 X.K H d1 x)(h2:i6 X.K H d2 y)(r1:bE x u)(r2:bE y v):SeqAt.RcAt A s u v (i7 d1 d2):=by
 have eY:A.units<î:=by lia
 have hi:∀{ds:List D} {j:Nat} {d e:D} {x y:V} {u v:F},jn ds+1<=n->ds[j]? = J d->i6 X.K H d x->i6 X.K H e y->bE x u->bE y v->ŉ A.in1 s u v _:=λ{ds j d e x y u v} hn q a b c d'=>BF I (n-1) _ _ _ _ _ _ _ (by have:=lH q;lia) (by show A.units+1+(n-1)<î;lia) a b c d';cases Sn I h1 r1<;>cases Sn I h2 r2
 ·exact SeqAt.RcAt.none_none
 ·exact SeqAt.RcAt.none_bool _
 ·exact SeqAt.RcAt.none_int _ _
 ·exact SeqAt.RcAt.none_str _ _
 ·exact SeqAt.RcAt.none_tuple ‹_› eY
 ·exact SeqAt.RcAt.none_list ‹_› eY
 ·exact SeqAt.RcAt.bool_none _
 ·exact SeqAt.RcAt.bool_bool _ _
 ·exact SeqAt.RcAt.bool_int _ _ _
 ·exact SeqAt.RcAt.bool_str _ _ _
 ·exact SeqAt.RcAt.bool_tuple _ ‹_› eY
 ·exact SeqAt.RcAt.bool_list _ ‹_› eY
 ·exact SeqAt.RcAt.int_none _ _
 ·exact SeqAt.RcAt.int_bool _ _ _
 ·exact SeqAt.RcAt.int_int _ _ _ _
 ·exact SeqAt.RcAt.int_str _ _ _ _
 ·exact SeqAt.RcAt.int_tuple _ _ ‹_› eY
 ·exact SeqAt.RcAt.int_list _ _ ‹_› eY
 ·exact SeqAt.RcAt.str_none _ _
 ·exact SeqAt.RcAt.str_bool _ _ _
 ·exact SeqAt.RcAt.str_int _ _ _ _
 ·exact SeqAt.RcAt.str_str _ _ _ _
 ·exact SeqAt.RcAt.str_tuple _ _ ‹_› eY
 ·exact SeqAt.RcAt.str_list _ _ ‹_› eY
 ·exact SeqAt.RcAt.tuple_none ‹_› eY
 ·exact SeqAt.RcAt.tuple_bool _ ‹_› eY
 ·exact SeqAt.RcAt.tuple_int _ _ ‹_› eY
 ·exact SeqAt.RcAt.tuple_str _ _ ‹_› eY
 ·rename_i ds a1 Kz i1 jA rO vv p1 es a2 KA i2 iK lD nF p2;exact G7 vv nF rO lD eY (wq vv nF rO lD λ_ _ _ _ _ _ _ q=>hi (by unfold du at hd;lia) q) p1 p2
 ·exact SeqAt.RcAt.tuple_list ‹_› ‹_› eY
 ·exact SeqAt.RcAt.list_none ‹_› eY
 ·exact SeqAt.RcAt.list_bool _ ‹_› eY
 ·exact SeqAt.RcAt.list_int _ _ ‹_› eY
 ·exact SeqAt.RcAt.list_str _ _ ‹_› eY
 ·exact SeqAt.RcAt.list_tuple ‹_› ‹_› eY
 ·rename_i ds a1 Kz i1 jA rO vv p1 es a2 KA i2 iK lD nF p2;exact G9 vv nF rO lD eY (wq vv nF rO lD λ_ _ _ _ _ _ _ q=>hi (by unfold du at hd;lia) q) p1 p2
theorem Ha (I:aP X pins L H s)(n:Nat)(d1 d2:D)(x y:V)(u v:F)(A:Ñ)(hd:du d1<=n)(hu:A.units+n<î)(h1:i6 X.K H d1 x)(h2:i6 X.K H d2 y)(r1:bE x u)(r2:bE y v):afK A s u v (!i7 d1 d2):=by
 have eY:A.units<î:=by lia
 have hi:∀{ds:List D} {j:Nat} {d e:D} {x y:V} {u v:F},jn ds+1<=n->ds[j]? = J d->i6 X.K H d x->i6 X.K H e y->bE x u->bE y v->ŉ _ s u v _:=λ{ds j d e x y u v} hn q a b c d'=>BF I (n-1) _ _ _ _ _ _ A.in1 (by have:=lH q;lia) (by show A.units+1+(n-1)<î;lia) a b c d';cases Sn I h1 r1<;>cases Sn I h2 r2
 ·exact SeqAt.RcNeAt.none_none
 ·exact SeqAt.RcNeAt.none_bool _
 ·exact SeqAt.RcNeAt.none_int _ _
 ·exact SeqAt.RcNeAt.none_str _ _
 ·exact SeqAt.RcNeAt.none_tuple ‹_› eY
 ·exact SeqAt.RcNeAt.none_list ‹_› eY
 ·exact SeqAt.RcNeAt.bool_none _
 ·exact SeqAt.RcNeAt.bool_bool _ _
 ·exact SeqAt.RcNeAt.bool_int _ _ _
 ·exact SeqAt.RcNeAt.bool_str _ _ _
 ·exact SeqAt.RcNeAt.bool_tuple _ ‹_› eY
 ·exact SeqAt.RcNeAt.bool_list _ ‹_› eY
 ·exact SeqAt.RcNeAt.int_none _ _
 ·exact SeqAt.RcNeAt.int_bool _ _ _
 ·exact SeqAt.RcNeAt.int_int _ _ _ _
 ·exact SeqAt.RcNeAt.int_str _ _ _ _
 ·exact SeqAt.RcNeAt.int_tuple _ _ ‹_› eY
 ·exact SeqAt.RcNeAt.int_list _ _ ‹_› eY
 ·exact SeqAt.RcNeAt.str_none _ _
 ·exact SeqAt.RcNeAt.str_bool _ _ _
 ·exact SeqAt.RcNeAt.str_int _ _ _ _
 ·exact SeqAt.RcNeAt.str_str _ _ _ _
 ·exact SeqAt.RcNeAt.str_tuple _ _ ‹_› eY
 ·exact SeqAt.RcNeAt.str_list _ _ ‹_› eY
 ·exact SeqAt.RcNeAt.tuple_none ‹_› eY
 ·exact SeqAt.RcNeAt.tuple_bool _ ‹_› eY
 ·exact SeqAt.RcNeAt.tuple_int _ _ ‹_› eY
 ·exact SeqAt.RcNeAt.tuple_str _ _ ‹_› eY
 ·rename_i ds a1 Kz i1 jA rO vv p1 es a2 KA i2 iK lD nF p2;exact G8 vv nF rO lD eY (wq vv nF rO lD λ_ _ _ _ _ _ _ q=>hi (by unfold du at hd;lia) q) p1 p2
 ·exact SeqAt.RcNeAt.tuple_list ‹_› ‹_› eY
 ·exact SeqAt.RcNeAt.list_none ‹_› eY
 ·exact SeqAt.RcNeAt.list_bool _ ‹_› eY
 ·exact SeqAt.RcNeAt.list_int _ _ ‹_› eY
 ·exact SeqAt.RcNeAt.list_str _ _ ‹_› eY
 ·exact SeqAt.RcNeAt.list_tuple ‹_› ‹_› eY
 ·rename_i ds a1 Kz i1 jA rO vv p1 es a2 KA i2 iK lD nF p2;exact G_ vv nF rO lD eY (wq vv nF rO lD λ_ _ _ _ _ _ _ q=>hi (by unfold du at hd;lia) q) p1 p2
def PU (K:Ê)(f:Bool->Bool):R2:=λx y H Q=>∃d1 d2,i6 K H d1 x/\i6 K H d2 y/\du d1<=30/\Q (.bl (f (i7 d1 d2))) H
theorem dB (hu:X.A.units+64<î):iL X (ú .Eq) (PU X.K id):=by
 intro pins s L H x y v u Q I rx ry h;obtain⟨d1,d2,h1,h2,hd,q⟩:=h;exact PR I 30 d1 d2 x y v u X.A hd (by lia) h1 h2 rx ry _ X.w X.xe _ ⟨.bl _,H,I,rfl,q⟩
theorem Hb (hu:X.A.units+64<î):iL X (ú .NotEq) (PU X.K not):=by
 intro pins s L H x y v u Q I rx ry h;obtain⟨d1,d2,h1,h2,hd,q⟩:=h;exact Ha I 30 d1 d2 x y v u X.A hd (by lia) h1 h2 rx ry _ X.w X.xe _ ⟨.bl _,H,I,rfl,q⟩
end L2
variable {dx:L2.D}{ds:List L2.D}
namespace L2
noncomputable def kC (n m:String):Bool:=(n==m)||(n=="bool"&&m=="int")
theorem Tn (K:Ê){n m:String}(hn:n∈["NoneType","bool","int","str","list","tuple","dict"])(hm:m∈["bool","int","str","list","tuple","dict"]) :
  PySem.W.kitOne K (.type n) (.type m)=J (kC n m):=by
 simp only[à,ţ,or_false] at hn hm;rcases hn with rfl|rfl|rfl|rfl|rfl|rfl|rfl<;>rcases hm with rfl|rfl|rfl|rfl|rfl|rfl<;>kernel_rfl
inductive y_ (K:Ê)(H:Hp):V->String->Prop where
 |non:y_ K H .non "NoneType"
 |bl (x:Bool):y_ K H (.bl x) "bool"
 |int (i:Int):y_ K H (.int i) "int"
 |str (x:Str):y_ K H (.str x) "str"
 |lst {a:G} {xs:List V} (e:H a=J (.lst xs)):y_ K H (.ref a) "list"
 |frz {a:G} {o:Obj} {xs:List V} (e:H a=J (.frz o (.lst xs))):y_ K H (.ref a) "list"
 |tup {a:G} {xs:List V} (e:H a=J (.tup xs)):y_ K H (.ref a) "tuple"
 |dK {a:G} {gU:List (md×V)} (e:H a=J (.dK gU)):y_ K H (.ref a) "dict"
 |dT {a:G} {gU:List (List md×V)} (e:H a=J (.dT gU)):y_ K H (.ref a) "dict"
theorem y_.mem {x:V}{n:String}(h:y_ K H x n):n∈["NoneType","bool","int","str","list","tuple","dict"]:=by
 cases h<;>simp
theorem y_.ty {x:V}{n:String}(h:y_ K H x n):pz K H x (.type n):=by
 cases h with
 |non=>exact .non
 |bl=>exact .bl _
 |int=>exact .int _
 |str=>exact .str _
 |lst e=>exact .lst e
 |frz e=>exact .frz e
 |tup e=>exact .tup e
 |dK e=>exact .dK e
 |dT e=>exact .dT e
theorem qk {m:String}(hm:m∈["bool","int","str","list","tuple","dict"]):eh X (.builtin "isinstance") (λxs H Q=>∃x n,xs=[x,.ty m]/\y_ X.K H x n/\Q (.bl (kC n m)) H):=by
 intro pins s L H xs us Q I r h;obtain⟨x,n,rfl,ty,q⟩:=h;obtain⟨u,w',rfl,rx,rt⟩:=GH r;cases rt;exact EU I rx ty.ty (Tn X.K ty.mem hm) λtk=>⟨.bl _,H,I.tok tk,rfl,q⟩
theorem ql:eh X (.type "range") (λxs H Q=>∃j,xs=[.int j]/\∀p,H p=Z->Q (.ref p) (cT H p (.rng 0 j))):=by
 intro pins s L H xs us Q I r h;obtain⟨j,rfl,q⟩:=h;obtain⟨u,rfl,rx⟩:=gD r;obtain⟨t,rfl⟩:=rx;refine call_range_1 ⟨.ref _,cT H _ _,I.laid (λb u e=>Ö _ e) (Ð _) ?_,rfl,q _ (I.hok.fresh (Ð _))⟩;exact⟨_,_,_,æ _ rfl⟩
theorem sV {a:Int}{n:Nat}{bH:Array F}(h:ItemsOf (λi v=>∃t,v=Value.int (a+i*1) t) bH n):bf ((ê n).map λi=>V.int (a+(i:Nat))) bH.toList:=by
 obtain⟨hs,hi⟩:=h;have gen:∀(l:List F) (k:Nat),(∀(i:Nat) v,l[i]? = J v->∃t,v=Value.int (a+((k+i:Nat):Int)*1) t)->bf ((List.range' k l.length).map λi=>V.int (a+(i:Nat))) l:=by
  intro l
  induction l with
  |nil=>intro k _;exact .nil
  |cons v r ih=>
   intro k hk;refine .cons ?_ (ih (k+1) λi v e=>?_)
   ·obtain⟨t,e⟩:=hk 0 v rfl;exact⟨t,by rw[e];simp⟩
   ·obtain⟨t,e'⟩:=hk (i+1) v (by simpa using e);refine⟨t,?_⟩;rw[e',show k+(i+1)=k+1+i by lia]
 have q:=gen bH.toList 0 (λi v e=>by
  obtain⟨t,e'⟩:=hi i v (by simpa using e);exact⟨t,by rw[e',Ġ]⟩)
 rw[í,hs] at q;rw[List.range_eq_range'];exact q
theorem vC (hc:X.calm=M):eh X (.type "list") (λxs H Q=>∃p lo hi,xs=[.ref p]/\H p=J (.rng lo hi)/\(-(2 ^ 62)<=lo/\lo<2 ^ 62/\ -(2 ^ 62)<=hi/\hi<2 ^ 62)/\(hi-lo).toNat<=2 ^ 20/\
  ∀l,H l=Z->Q (.ref l) (cT H l (.lst ((ê (hi-lo).toNat).map λi=>V.int (lo+(i:Nat)))))):=by
 intro pins s L H xs us Q I r h;obtain⟨p,lo,hi,rfl,hp,⟨h1,h2,h3,h4⟩,hz,q⟩:=h;obtain⟨u,rfl,rx⟩:=gD r;cases rx;obtain⟨t,u,v,e⟩:=I.hok p _ hp;refine call_list_range (n:=(hi-lo).toNat) (I.ok.hd hc) (e) (small_one h1 h2 h3 h4) (by rw[rangeSize_one];split<;>lia) (by lia) λh' tk RW c' hk K1 rN=>?_;have hl:((ê (hi-lo).toNat).map λi=>V.int (lo+(i:Nat))).length<=Â:=by
  rw[Æ,ĝ,ī];lia
 refine⟨.ref _,_,I.laid hk (Ð _) (show dE X.prog X.w _ _ _ (.lst _) from ⟨hl,RW.toList,c',sV rN,by simpa using K1⟩),rfl,q _ (I.hok.fresh (Ð _))⟩
def Hd (i j:Int):Prop:=0<j/\j<18446744073709551616
theorem BG {n:Nat}(h:n<18446744073709551616):n.log2<9000:=by
 by_cases h0:n=0
 ·subst h0;decide
 ·have:=(Nat.log2_lt h0 (k:=64)).mpr (by lia);lia
theorem pE:iL X (Ę .FloorDiv) (rI Hd λi j=>.int (i / j)):=Vs λi j _ _ _ _ _ hc q=>by
 refine floordiv_int (by have:=hc.1;lia) ?_ (.inl (PyProof.noPylong_of_log2 (BG (by have:=hc.1;have:=hc.2;omega))));rw[Int.fdiv_eq_ediv_of_nonneg _ (by have:=hc.1;lia)];exact q
def Lw:þ "list"=J (.type "list"):=by rfl
def bN:þ "tuple"=J (.type "tuple"):=by rfl
def xA:þ "int"=J (.type "int"):=by rfl
def CY:þ "bool"=J (.type "bool"):=by rfl
def xB:þ "str"=J (.type "str"):=by rfl
def za:þ "range"=J (.type "range"):=by rfl
def cy:þ "len"=J (.builtin "len"):=by rfl
def PV:þ "max"=J (.builtin "max"):=by rfl
def He:þ "min"=J (.builtin "min"):=by rfl
def mf:þ "isinstance"=J (.builtin "isinstance"):=by rfl
def pF:þ "sorted"=J (.builtin "sorted"):=by rfl
def jE:þ "all"=J (.builtin "all"):=by rfl
def PX:þ "sum"=J (.builtin "sum"):=by rfl
end L2
namespace HT
open L2
section
variable {A:Ñ}
theorem getItem_tuple_whole {t sl:G}{vl vu:F}{lo hi:Option Int}(ht:IsTup s.heap t bP)(hs:s.heap.IsSliceOf sl vl vu .none)(pl:IsPart vl lo)(pu:IsPart vu hi)(hw:sIx bP.size 0 lo=0/\sIx bP.size bP.size hi=bP.size)(h:Q (.ref t) s):Å (Ä prog w) A (getItem (.ref t) (.ref sl)) Q E s:=by
 obtain⟨os,K5,hcs,hds⟩:=id hs;have Xj:s.TypeIs (.ref sl) "slice":=⟨os,K5,hcs⟩;unfold getItem
 try with_reducible refine Ģ ?_
 refine À (wpAny_sequenceKey ht.typeIs (by decide) ?_);refine À (Ř ht.typeIs ϱ
  (Ī ϱ ht.typeIs entry_tuple_getitem ?_ (args_tuple_getitem _ _)))
 show Å _ _ (afb (.ref t) >>= _) _ _ s;refine À (tupleItemsOf_ ht ?_);refine À (Κ Xj ?_);refine À (jl hs pl pu ?_);obtain⟨w1,w2⟩:=hw;rw[w1,w2];show Å _ _ (if (((0:Nat):Int)==0&&(1:Int)==1&&(bP.size-0)==bP.size)=M then _ else _) _ _ s;rw[hV (by simp)];have K2:Å (Ä prog w) A.in1 (Builtin.Tuple.tupleIsExact (.ref t)) (λb s'=>b=M/\s'=s) E s:=by
  exact À (Κ ht.typeIs (Ë ⟨by decide,rfl⟩))
 refine À (ù K2 (λb s' hb=>?_) λ_ _ e=>e);obtain⟨rfl,rfl⟩:=hb;exact À (ĸ (Ë ⟨_,rfl,Ë h⟩))
end
end HT
namespace L2
def sW {p:G}(h:H p=Z)(o:HO):aO H (cT H p o):=λb u q=>by rw[aL (cu q h)];exact q
section
open AutoSeq1 (wpAny_loadPart')
theorem l7 {A:Ñ}{Q:List ò->Ã->Prop}{r:G}{a b c:Int}{t u v:Tok}{n:Nat}(hh:A.handled=Z)(hr:IsRange s.heap r a b c t u v)(CA:Builtin.Range.small a b c=M)(hn:aec a b c=n)(ef:n<=2 ^ 24)(hQ:∀h' tk (bH:Array ò),(∀b o',s.heap.get? b=J o'->h'.get? b=J o')->ItemsOf (λi v=>∃t,v=.int (a+i*c) t) bH n->Q bH.toList {s with heap:=h',toks:=tk}) :
  Å (Ä prog w) A (collect (.ref r)) Q E s:=by
 refine À (ϗ (ś F.entry_proto_collect ?_));refine À (ř ?_);refine Ë ⟨plainId_quiet F.plain_list_iadd _,ś F.entry_list_iadd ?_⟩;have hS:(s.heap.push _).get? _=J {cls:=.type "list",data:=.seq #[] 0}:=æ _ rfl;refine ù (wpAny_extend_range (R:=λres s'=>res=.ok _/\Å (Ä prog w) A (load s.heap.objs.size >>= λo=>match o.data with|.seq xs _=>pure xs.toList|_=>Ų "internal:collect") Q E s')
  hh (Ö _ hr) CA hn ef _ _ 0 hS λh' tk RW c' hk K1 rN=>⟨rfl,?_⟩) (λfin s' h=>?_) λe s' h=>absurd h.1 (by simp)
 ·refine À (wpAny_load K1 (Ë ?_));exact hQ h' tk RW (λb o' hb=>hk b o' (è (Û hb)) (Ö _ hb)) rN
 ·cases fin with
  |done f=>
   obtain⟨e,q⟩:=h;cases e;exact q
  |again c'=>exact⟨h.1,ű h.2 λr RQ hr=>by obtain⟨rfl,q⟩:=hr;exact q⟩
theorem ki (l:G)(a b c:Int)(t u v:Tok)(n:Nat)(CA:Builtin.Range.small a b c=M)(hn:aec a b c=n)(ef:n<=2 ^ 20) :
  Meets (Builtin.«tuple.__new__» ⟨[.type "tuple",.ref l],[]⟩)
   (λA R s=>A.handled=Z/\IsRange s.heap l a b c t u v/\∀(h':Í) (tk:Nat) (bH:Array F),(∀b o',s.heap.get? b=J o'->h'.get? b=J o')->ItemsOf (λi v=>∃t,v=.int (a+i*c) t) bH n->
    R (.ok (.ret (.ref h'.objs.size))) {s with heap:=h'.push {cls:=.type "tuple",data:=.seq bH},toks:=tk}):=
 .of_wp λprog w A R s h=>by
  obtain⟨hh,ht,h⟩:=h;have Zs:=sub_tuple_self;have YB:=init_tuple_lookup;have hmh:=madeHere_tuple;wp_walk using Κ hT,l7 (A:=A.in1) hh ht CA hn (by lia);intro h' Va bH hk rN;show Å _ _ (Builtin.Tuple.tupleExact _ >>= λv=>ret v) _ _ _;refine À (ř ?_ (by show bH.toList.toArray.size<=Â;rw[ī];simp;have:=rN.1;lia));refine Ë ⟨_,rfl,?_⟩;have e:bH.toList.toArray=bH:=by simp
  exact h h' Va bH hk rN
theorem sX (hc:X.calm=M):eh X (.type "tuple") (λxs H Q=>∃p lo hi,xs=[.ref p]/\H p=J (.rng lo hi)/\(-(2 ^ 62)<=lo/\lo<2 ^ 62/\ -(2 ^ 62)<=hi/\hi<2 ^ 62)/\(hi-lo).toNat<=2 ^ 20/\
  ∀l,H l=Z->Q (.ref l) (cT H l (.tup ((ê (hi-lo).toNat).map λi=>V.int (lo+(i:Nat)))))):=by
 intro pins s L H xs us Q I r h;obtain⟨p,lo,hi,rfl,hp,⟨h1,h2,h3,h4⟩,hz,q⟩:=h;obtain⟨u,rfl,rx⟩:=gD r;cases rx;obtain⟨t,u,v,e⟩:=I.hok p _ hp;refine callType_new F.called_tuple (by decide) (F.typeCall_tuple_1 _) (F.newCall_tuple_1 _) (λobj=>F.args_object_init_2 obj _) F.entry_tuple_new
  (ki p lo hi 1 t u v _ (small_one h1 h2 h3 h4) (by rw[rangeSize_one];split<;>lia) hz) ⟨I.ok.hd hc,e,λh' tk bH hk rN=>⟨⟨_,æ _ rfl,rfl⟩,?_⟩⟩
 have hl:((ê (hi-lo).toNat).map λi=>V.int (lo+(i:Nat))).length<=Â:=by
  rw[Æ,ĝ,ī];lia
 have I1:aP X pins L H {s with heap:=h',toks:=tk}:=I.kept hk;refine⟨.ref _,_,I1.laid (λb o e=>Ö _ e) (Ð _) (show dE X.prog X.w _ _ _ (.tup _) from ⟨hl,bH.toList,sV rN,by simpa using IsTup.new h' bH,0,by simpa using æ h' rfl⟩),rfl,q _ (I1.hok.fresh (Ð _))⟩
end
end L2
namespace HT
open L2
end HT
namespace L2
def zc:V->List V->Hp->VK->Prop:=λx vs H Q=>∃l b xs zs,x=.ref l/\vs=[.ref b]/\H l=J (.lst xs)/\H b=J (.tup zs)/\xs.length+zs.length<=Â/\Q .non (cT H l (.lst (xs++zs)))
theorem BH:Wg X "list.extend" zc:=by
 intro pins s L H x vs v us Q I rx rv h;obtain⟨l,b,xs,zs,rfl,rfl,hH,hB,hz,q⟩:=h;cases rx;obtain⟨u,rfl,ru⟩:=rv.one;cases ru;obtain⟨z,its,n,r,hl,e⟩:=I.lstM hH;obtain⟨z2,its2,r2,_,n2,e2⟩:=I.hok b _ hB;have Nb:=r2.length;have hsz:its.toArray.size+its2.toArray.size<=Â:=by simp_all
 have KC:¬(!its.toArray.isEmpty&&ad4 (its.toArray.size+its2.toArray.size))=M:=by
  rw[y6 hsz,Δ];exact ü
 refine call_meets F.slot_list_extend ⟨_,e,rfl⟩ F.entry_list_extend (F.args_list_extend_2 _ _)
  (AutoSeq1.list_extend_list_tuple_0 l _ n b _ n2 KC (by lia) (by lia)) ⟨e,e2,?_⟩
 refine⟨.non,_,I.lset hH e (by simp) (r.append r2) ?_,rfl,q⟩;rw[Þ];lia
theorem xC:eh X (.builtin "sorted") (λxs H Q=>∃(p:G) (ns:List Int),xs=[.ref p]/\(eI X.K H p (ns.map V.int)\/fE X.K H p (ns.map V.int))/\ns.length<64/\
  ∀(l:G) (vx:List Int),H l=Z->vx.Perm ns->vx.Pairwise (·<=·)->Q (.ref l) (cT H l (.lst (vx.map V.int)))):=by
 intro pins s L H xs us Q I r h;obtain⟨p,ns,rfl,hq,h64,q⟩:=h;obtain⟨u,rfl,rx⟩:=gD r;cases rx;have Zt:∃(T:String) (o:Obj) (its:List F) (n:Nat),(T="list"\/T="tuple")/\s.heap.get? p=J o/\o.cls=.type T/\o.data=.seq its.toArray n/\ý its ns:=by
  rcases hq with hq|hq
  ·obtain⟨its,rv,pl,hz⟩:=I.list hq;obtain⟨o,e,c,n,d⟩:=pl.isList;exact⟨"list",o,its,n,.inl rfl,e,c,d,dh rv⟩
  ·obtain⟨its,rv,pl,hz⟩:=I.tuple hq;obtain⟨o,e,c,n,d⟩:=pl;exact⟨"tuple",o,its,n,.inr rfl,e,c,d,dh rv⟩
 obtain⟨T,o,its,n,hT,ho,hc,hd,hI⟩:=Zt;have ef:=hI.length;refine afu kind_sorted plain_sorted entry_sorted (args_sorted1 _) ?_;refine À (Ë ?_);refine À (wpAny_collect_seq p hT ho hc hd (λh1 k1=>?_) (by rw[ë,ī];lia));refine À (wpAny_newList ?_);have RX:(h1.push _).get? _=J (seqObj "list" its.toArray 0):=æ _ rfl;have RY:=by simpa using RX
 refine À (Ģ (Ī slot_list_sort ⟨_,RY,rfl⟩ entry_list_sort (list_sort_tree RY hI (by simp[*]) λout vx a1 a2 a3=>⟨_,rfl,?_⟩) (args_list_sort _)));refine Ë ⟨_,rfl,?_⟩;obtain⟨e,he⟩:=sortedHeap_at RY;have keep:∀b o,h1.get? b=J o->(sortedHeap (h1.push {cls:=.type "list",data:=.seq (its.toArray.toList).toArray}) _ its out).get? b=J o:=λb o e=>by
  have hb:=Û e;rw[sortedHeap_old (è hb) (by rw[Đ];exact ž hb)];exact Ö _ e
 have I1:=I.kept (t':=s.toks) k1;have Nb:(vx.map V.int).length<=Â:=by rw[Æ,a2.length_eq,ī];lia
 exact⟨.ref _,_,I1.laid keep (Ð _) (show dE X.prog X.w _ _ _ (.lst _) from ⟨Nb,out.toList,e,pB a1,by simpa using he⟩),rfl,q _ vx (I1.hok.fresh (Ð _)) a2 a3⟩
theorem EZ {bs:List Bool}{us:List F}(r:bf (bs.map V.bl) us){v:F}(h:us[i]? = J v):v=.bool (bs.getD i M):=by
 have hl:=r.length;rw[Æ] at hl;obtain⟨hi,_⟩:=ċ.mp h;have e:(bs.map V.bl)[i]? = J (V.bl (bs.getD i M)):=by
  simp[*]
 obtain⟨u,hu,ru⟩:=r.get e;rw[h] at hu;cases hu;exact ru
theorem E1 (bs:List Bool):((ê bs.length).all λi=>bs.getD i M)=bs.all id:=by
 induction bs with
 |nil=>rfl
 |cons b bs ih=>
  rw[Ò,List.range_succ_eq_map,Œ,υ];congr 1
theorem d0 (hc:X.calm=M):eh X (.builtin "all") (λxs H Q=>∃(p:G) (bs:List Bool),xs=[.ref p]/\eI X.K H p (bs.map V.bl)/\Q (.bl (bs.all id)) H):=by
 intro pins s L H xs us Q I r h;obtain⟨p,bs,rfl,hq,q⟩:=h;obtain⟨u,rfl,rx⟩:=gD r;cases rx;obtain⟨its,rv,pl,hz⟩:=I.list hq;have hl:=pl.isList;have CB:p<s.heap.objs.size:=by obtain⟨_,e,_⟩:=hl;exact Û e
 refine call_all_walk (ϕ hl ?_);refine⟨s.heap.objs.size,_,_,_,_,_,λi=>bs.getD i M,rfl,Walks.list (A:=X.A.in1) (I.ok.hd hc) _ p (è CB) _,⟨⟨_,æ _ rfl,rfl,rfl⟩,hl.push _⟩,?_,λh' tk hk=>?_⟩
 ·intro i v s' Q' E' hP Zu;have e:=EZ rv (by simpa using hP);subst e;exact ŋ Zu
 ·have e:(ê its.toArray.size).all (λi=>bs.getD i M)=bs.all id:=by
   rw[ë,<-rv.length,Æ];exact E1 bs
  rw[e];refine⟨.bl _,H,I.kept λb o e=>hk b o (λhm=>?_) (Ö _ e),rfl,q⟩;rcases à.mp hm with e1|hm
  ·exact absurd (e1▸Û e) (ı _)
  ·cases hm
def Hg (K:Ê):V->Option Int->Option Int->Hp->VK->Prop:=λx lo hi H Q=>∃a xs,x=.ref a/\H a=J (.tup xs)/\∀r H',aO H H'->H' r=J (.tup (xu xs lo hi))->Q (.ref r) H'
theorem Lx:GU X (Hg X.K):=by
 have base:GU X _:=PF;intro pins s L H x v vl vu lo hi sl Q I rx hs pl pu h;obtain⟨a,xs,rfl,vt,q⟩:=h;have hx:fE X.K H a xs:=fE.of vt;by_cases hw:HT.sIx xs.length 0 lo=0/\HT.sIx xs.length xs.length hi=xs.length
 ·cases rx;obtain⟨its,r,ht,hz⟩:=I.tuple hx;have hl:its.toArray.size=xs.length:=by rw[ë,r.length]
  refine⟨"tuple",_,PyProof.Rows.slot_tuple_getitem.lookup,ht.typeIs,HT.getItem_tuple_whole ht hs pl pu (by rw[hl];exact hw) ⟨.ref a,H,I,rfl,q a H (aO.refl _) ?_⟩⟩;have e:xu xs lo hi=xs:=by unfold xu;rw[hw.1,hw.2];simp
  rw[e];exact vt
 ·exact base pins s L H _ v vl vu lo hi sl Q I rx hs pl pu ⟨a,xs,rfl,hx,hw,λp hp=>q p _ (sW hp _) aW⟩
def Hh:R2:=λx y H Q=>∃a b xs ys,x=.ref a/\y=.ref b/\H a=J (.tup xs)/\H b=J (.tup ys)/\xs.length+ys.length<=Â/\∀r H',aO H H'->H' r=J (.tup (xs++ys))->Q (.ref r) H'
theorem Hi:iL X (Ę .Add) Hh:=by
 intro pins s L H x y v u Q I rx ry h;obtain⟨a,b,xs,ys,rfl,rfl,CG,Gf,hz,q⟩:=h;have ha:fE X.K H a xs:=fE.of CG;have hb:fE X.K H b ys:=fE.of Gf;by_cases hx:xs=[]
 ·subst hx;cases rx;cases ry;obtain⟨its,r1,p1,_⟩:=I.tuple ha;obtain⟨its2,r2,p2,_⟩:=I.tuple hb;have e1:=(bf.nil_iff r1).mpr rfl;subst e1;obtain⟨⟨cls,dd,data,sl⟩,ho,hc,n,hd⟩:=id p1;obtain⟨⟨cls2,O2,data2,O3⟩,ho2,hc2,n2,hd2⟩:=id p2;subst hc hd hc2 hd2;exact concat_meets ⟨_,ho,rfl⟩ ⟨_,ho2,rfl⟩ noFill_tuple_add seq_tuple_add aeq aef (ad3 _ _)
   (tuple_addW0 a b _ _ n n2 dd O2 sl O3 (by simp)) ⟨ho,ho2,⟨.ref b,H,I,rfl,q b H (aO.refl _) (by simpa using Gf)⟩⟩
 ·refine Lp pins s L H _ _ v u Q I rx ry ⟨a,b,xs,ys,rfl,rfl,ha,hb,hx,hz,λe=>?_,λ_ p hp=>q p _ (sW hp _) aW⟩;subst e;exact q a H (aO.refl _) (by simpa using CG)
end L2
namespace L2
structure Fn (P:ø)(w:ß)(K:Ê)(mg:Str->Option F)(base:Í)(x:Str)(k:Nat)(ps:List Str)(sp:Sp):Prop where
 ex:∃(f:G) (fd:ĭ),mg x=J (.ref f)/\Ń K (.ref f)=M/\jj K fd ps []/\fc P w K mg base kg k f fd ps sp
structure Df (K:Ê)(mg:Str->Option F)(x:Str)(st:Ô):Prop where
 ex:∃(f:G) (fd:ĭ),mg x=J (.ref f)/\rl K x x st f fd
section
variable {base:Í}
theorem Df.fn (d:Df K mg x st)(S:az N ps (ag st))(hb:∀(kV ku pm:ò) (an:Option G) (bT ct:ò) (us:List ò),us.length=ps.length->bindArgs (Ĉ x x (di st) (aU st) (ag st) .none kV ku pm an bT ct) ⟨us,[]⟩=pure (ps.zip us))(len:∀vs H Q E,sp vs H Q E->vs.length=ps.length)(dZ:∀(f:G) (bT:ò) (A:Ñ) (outer:List Env) (s:Ã) (H:Hp) (vs:List V) (Q:VK) (E:XK),cI k (A.deeper (Ć x (ag st) s.heap.objs.size f bT))->sp vs H Q E->
   ∃t,vy (eZ kg P w K mg base N x (ag st) f bT A outer s H E).nox (aU st) t/\t {nx:=λ_ H'=>Q .non H',rt:=Q} (ô N vs) H):Fn P w K mg base x (k+1) ps sp:=by
 obtain⟨f,fd,m,F⟩:=d.ex;exact⟨f,fd,m,F.kp,F.binds hb,F.ok S len (dZ f)⟩
end
section
variable {p:Pos}{e:É}{t:TA}
theorem sY (F:Fn X.prog X.w X.K X.mg X.base x k ps sp)(hr:cI k X.A)(ha:PA X (e::es) t)(hg:Gl X x:=by rfl)(vW:(x==("__debug__":Str))=Y:=by decide)
  (he:Ç (e::es) X.env=(Y,Ì e X.env)::Ç es X.env:=by rfl) (jh:(ã pos (Ç es X.env)).any (·.1)=Y:=by rfl) :
  PE X (.Call (.Name x p) (e::es) [] pos) (GN sp [] E0 t):=by
 obtain⟨f,fd,hm,hk,hb,G⟩:=F.ex;exact Lk G hr hg hm hk hb .nil wo ha vW he jh
end
theorem aO.seqT (e:aO H H')(h:fE K H a xs):fE K H' a xs:=by
 rcases h with (h|⟨o,h⟩)|h
 ·exact .inl (.inl (e _ _ h))
 ·exact .inl (.inr ⟨o,e _ _ h⟩)
 ·exact .inr h
mutual
theorem aO.rep {K:Ê}{H H':Hp}(e:aO H H'):∀{d:D} {v:V},i6 K H d v->i6 K H' d v
 | .non,v,h=>by unfold i6 at h |-;exact h
 | .bl b,v,h=>by unfold i6 at h |-;exact h
 | .int b,v,h=>by unfold i6 at h |-;exact h
 | .str b,v,h=>by unfold i6 at h |-;exact h
 | .tup ds,v,h=>by
  unfold i6 at h |-;obtain⟨a,xs,r,q,z⟩:=h;exact⟨a,xs,r,e.seqT q,aO.reps e z⟩
 | .lst ds,v,h=>by
  unfold i6 at h |-;obtain⟨a,xs,r,q,z⟩:=h;exact⟨a,xs,r,e.seq q,aO.reps e z⟩
theorem aO.reps {K:Ê}{H H':Hp}(e:aO H H'):∀{ds:List D} {vs:List V},fY K H ds vs->fY K H' ds vs
 | [],vs,h=>by grind[fY]
 |d::ds,vs,h=>by
  unfold fY at h |-;obtain⟨x,r,q,p,z⟩:=h;exact⟨x,r,q,aO.rep e p,aO.reps e z⟩
end
end L2
namespace L2
inductive U where
 |non|bl (b:Bool)|int (i:Int)|str (x:Str)|tup (xs:List U)|lst (xs:List U)|dct (ks vs:List U)|scr (xs:List U)|obj (fs:List Str) (xs:List U)
instance:Inhabited U:=⟨.non⟩
inductive R (α:Type) where
 |ok (a:α)|exc (c:String) (u:U)|stk
noncomputable def R.bind {α β:Type}:R α->(α->R β)->R β
 | .ok a,f=>f a
 | .exc c u,_=>.exc c u
 | .stk,_=>.stk
noncomputable abbrev Ev:=List (Option U)
inductive SR where
 |nx (B:Ev)|rt (u:U) (B:Ev)|bk (B:Ev)|ct (B:Ev)|exc (c:String) (u:U)|stk
end L2
variable {us ks:List L2.U}{u s1 q:L2.U}{p p':L2.U->L2.U->L2.R L2.U}{B:L2.Ev}{sg:L2.U->L2.Ev->L2.R L2.Ev}{I:Nat->L2.U->Nat->Prop}
namespace L2
open Sem (wp)
mutual
noncomputable def vD:U->U->Bool
 | .non,.non=>M
 | .bl a,.bl b=>decide (a=b)
 | .int a,.int b=>decide (a=b)
 | .str a,.str b=>decide (a=b)
 | .tup a,.tup b=>nO a b
 | .lst a,.lst b=>nO a b
 | .dct a b,.dct c d=>nO a c&&nO b d
 | .scr a,.scr b=>nO a b
 | .obj a b,.obj c d=>decide (a=c)&&nO b d
 |_,_=>Y
noncomputable def nO:List U->List U->Bool
 | [],[]=>M
 |x::xs,y::ys=>vD x y&&nO xs ys
 |_,_=>Y
end
mutual
theorem Hj:∀{a b:U},vD a b=M->a=b
 | .non,b,h=>by cases b<;>first|rfl|(unfold vD at h;cases h)
 | .bl a,b,h=>by cases b<;>unfold vD at h<;>first|(cases h;done)|rw[of_decide_eq_true h]
 | .int a,b,h=>by cases b<;>unfold vD at h<;>first|(cases h;done)|rw[of_decide_eq_true h]
 | .str a,b,h=>by cases b<;>unfold vD at h<;>first|(cases h;done)|rw[of_decide_eq_true h]
 | .tup a,b,h=>by cases b<;>unfold vD at h<;>first|(cases h;done)|rw[jF h]
 | .lst a,b,h=>by cases b<;>unfold vD at h<;>first|(cases h;done)|rw[jF h]
 | .scr a,b,h=>by cases b<;>unfold vD at h<;>first|(cases h;done)|rw[jF h]
 | .dct a c,b,h=>by
  cases b<;>unfold vD at h<;>first|(cases h;done)|skip
  rw[é] at h;rw[jF h.1,jF h.2]
 | .obj a c,b,h=>by
  cases b<;>unfold vD at h<;>first|(cases h;done)|skip
  rw[é] at h;rw[of_decide_eq_true h.1,jF h.2]
theorem jF:∀{a b:List U},nO a b=M->a=b
 | [],[],_=>rfl
 | [],_::_,h=>by unfold nO at h;cases h
 |_::_,[],h=>by unfold nO at h;cases h
 |x::xs,y::ys,h=>by
  unfold nO at h;rw[é] at h;rw[Hj h.1,jF h.2]
end
mutual
theorem zd:∀(a:U),vD a a=M
 | .non=>rfl
 | .bl a=>by unfold vD;exact hG rfl
 | .int a=>by unfold vD;exact hG rfl
 | .str a=>by unfold vD;exact hG rfl
 | .tup a=>by unfold vD;exact fF a
 | .lst a=>by unfold vD;exact fF a
 | .scr a=>by unfold vD;exact fF a
 | .dct a b=>by unfold vD;rw[fF a,fF b];rfl
 | .obj a b=>by unfold vD;rw[fF b,hG rfl];rfl
theorem fF:∀(a:List U),nO a a=M
 | []=>by rfl
 |x::xs=>by unfold nO;rw[zd x,fF xs];rfl
end
instance YX:DecidableEq U:=λa b=>if h:vD a b=M then .isTrue (Hj h) else .isFalse λe=>h (by rw[e];exact zd b)
mutual
def mj (h:Í):U->F->Prop
 | .int i,v=>∃t,v=.int i t
 | .tup us,v=>∃a bP,v=.ref a/\h.IsTuple a bP/\iM h us bP.toList
 |_,_=>False
def iM (h:Í):List U->List F->Prop
 | [],vs=>vs=[]
 |u::us,vs=>∃v r,vs=v::r/\mj h u v/\iM h us r
end
mutual
noncomputable def hK:U->Int
 | .int i=>hashInt i
 | .tup us=>reduceHash (Builtin.Tuple.tupleHashOf (X6 us))
 |_=>0
noncomputable def X6:List U->List Int
 | []=>[]
 |u::us=>hK u::X6 us
end
mutual
noncomputable def YY:U->Nat
 | .tup us=>To us+1
 |_=>1
noncomputable def To:List U->Nat
 | []=>0
 |u::us=>YY u+To us
end
mutual
noncomputable def YZ:U->Nat
 | .tup us=>PY us+1
 |_=>0
noncomputable def PY:List U->Nat
 | []=>0
 |u::us=>max (YZ u) (PY us)
end
theorem BI {x y:Array F}(h1:h.IsTuple a x)(h2:h.IsTuple a y):x=y:=by
 obtain⟨o,e,_,n,d⟩:=h1;obtain⟨o',e',_,n',d'⟩:=h2;lia
mutual
theorem mj.inj {h:Í}:∀{x y:U} {v:F},mj h x v->mj h y v->x=y
 | .int i,y,v,h1,h2=>by
  unfold mj at h1;obtain⟨t,rfl⟩:=h1;cases y<;>unfold mj at h2<;>first|exact h2.elim|skip
  ·lia
  ·obtain⟨_,_,e,_⟩:=h2;cases e
 | .str i,y,v,h1,h2=>by unfold mj at h1;exact h1.elim
 | .tup us,y,v,h1,h2=>by
  unfold mj at h1;obtain⟨a,its,rfl,q,z⟩:=h1;cases y<;>unfold mj at h2<;>first|exact h2.elim|skip
  ·obtain⟨u,e⟩:=h2;cases e
  ·obtain⟨a',rM,e,q',z'⟩:=h2;cases e;have:=BI q q';subst this;rw[iM.inj z z']
 | .non,y,v,h1,h2=>by unfold mj at h1;exact h1.elim
 | .bl _,y,v,h1,h2=>by unfold mj at h1;exact h1.elim
 | .lst _,y,v,h1,h2=>by unfold mj at h1;exact h1.elim
 | .dct _ _,y,v,h1,h2=>by unfold mj at h1;exact h1.elim
 | .scr _,y,v,h1,h2=>by unfold mj at h1;exact h1.elim
 | .obj _ _,y,v,h1,h2=>by unfold mj at h1;exact h1.elim
theorem iM.inj {h:Í}:∀{x y:List U} {vs:List F},iM h x vs->iM h y vs->x=y
 | [],y,vs,h1,h2=>by
  unfold iM at h1;subst h1;cases y with
  |nil=>rfl
  |cons=>grind[iM]
 |u::us,y,vs,h1,h2=>by
  unfold iM at h1;obtain⟨v,r,rfl,p,q⟩:=h1;cases y with
  |nil=>grind[iM]
  |cons=>
   unfold iM at h2;obtain⟨v',r',e,p',q'⟩:=h2;cases e;rw[mj.inj p p',iM.inj q q']
end
mutual
theorem mj.keep {h h':Í}(k:∀a its,h.IsTuple a its->h'.IsTuple a its):∀{x:U} {v:F},mj h x v->mj h' x v
 | .int i,v,h1=>by unfold mj at h1 |-;exact h1
 | .str i,v,h1=>by unfold mj at h1;exact h1.elim
 | .tup us,v,h1=>by
  unfold mj at h1 |-;obtain⟨a,its,e,q,z⟩:=h1;exact⟨a,its,e,k a its q,iM.keep k z⟩
 | .non,v,h1=>by unfold mj at h1;exact h1.elim
 | .bl _,v,h1=>by unfold mj at h1;exact h1.elim
 | .lst _,v,h1=>by unfold mj at h1;exact h1.elim
 | .dct _ _,v,h1=>by unfold mj at h1;exact h1.elim
 | .scr _,v,h1=>by unfold mj at h1;exact h1.elim
 | .obj _ _,v,h1=>by unfold mj at h1;exact h1.elim
theorem iM.keep {h h':Í}(k:∀a its,h.IsTuple a its->h'.IsTuple a its):∀{x:List U} {vs:List F},iM h x vs->iM h' x vs
 | [],vs,h1=>by unfold iM at h1 |-;exact h1
 |u::us,vs,h1=>by
  unfold iM at h1 |-;obtain⟨v,r,e,p,q⟩:=h1;exact⟨v,r,e,mj.keep k p,iM.keep k q⟩
end
def Y0 (p:List U×G×V)(q:List U×G×F):Prop:=p.1=q.1/\p.2.1=q.2.1/\bE p.2.2 q.2.2
def Wi (e:List U×G×F):Ş:=⟨hK (.tup e.1),.ref e.2.1,e.2.2⟩
def Tp (a:G)(ep:Nat)(es:List (List U×G×V))(h:Í):Prop:=(a==sysModules)=Y/\∃o ds,∃xs:List (List U×G×F),h.get? a=J o/\o.ExactDict/\o.data=.dict ds ep/\Paired Y0 es xs/\ds.toList=xs.map Wi
noncomputable def DN (a:G)(ep:Nat)(es:List (List U×G×V)):HO:=.ext (Tp a ep es)
mutual
def KH (H:Hp):U->V->Prop
 | .int i,v=>v=.int i
 | .tup us,v=>∃b ys,v=.ref b/\H b=J (.tup ys)/\us.length<=Â/\Bj H us ys
 |_,_=>False
def Bj (H:Hp):List U->List V->Prop
 | [],vs=>vs=[]
 |u::us,vs=>∃v r,vs=v::r/\KH H u v/\Bj H us r
end
mutual
theorem KH.to {H H':Hp}(e:∀b ys,H b=J (.tup ys)->H' b=J (.tup ys)):∀{u:U} {v:V},KH H u v->KH H' u v
 | .int i,v,h=>by grind[KH]
 | .tup us,v,h=>by
  unfold KH at h |-;obtain⟨b,ys,r,q,l,z⟩:=h;exact⟨b,ys,r,e b ys q,l,Bj.to e z⟩
 | .non,v,h=>by unfold KH at h;exact h.elim
 | .bl _,v,h=>by unfold KH at h;exact h.elim
 | .str _,v,h=>by unfold KH at h;exact h.elim
 | .lst _,v,h=>by unfold KH at h;exact h.elim
 | .dct _ _,v,h=>by unfold KH at h;exact h.elim
 | .scr _,v,h=>by unfold KH at h;exact h.elim
 | .obj _ _,v,h=>by unfold KH at h;exact h.elim
theorem Bj.to {H H':Hp}(e:∀b ys,H b=J (.tup ys)->H' b=J (.tup ys)):∀{us:List U} {vs:List V},Bj H us vs->Bj H' us vs
 | [],vs,h=>by grind[Bj]
 |u::us,vs,h=>by
  unfold Bj at h |-;obtain⟨v,r,q,p,z⟩:=h;exact⟨v,r,q,KH.to e p,Bj.to e z⟩
end
mutual
theorem KH.is (ok:pb P w H h):∀{u:U} {v:V} {x:F},KH H u v->bE v x->mj h u x
 | .int i,v,x,k,r=>by
  unfold KH at k;subst k;obtain⟨t,rfl⟩:=r;unfold mj;exact⟨t,rfl⟩
 | .tup us,v,x,k,r=>by
  unfold KH at k;obtain⟨b,ys,rfl,q,_,z⟩:=k;cases r;obtain⟨_,its,rv,it,_⟩:=ok b _ q;unfold mj;exact⟨b,its.toArray,rfl,it,by simpa using Bj.is ok z rv⟩
 | .non,v,x,k,r=>by unfold KH at k;exact k.elim
 | .bl _,v,x,k,r=>by unfold KH at k;exact k.elim
 | .str _,v,x,k,r=>by unfold KH at k;exact k.elim
 | .lst _,v,x,k,r=>by unfold KH at k;exact k.elim
 | .dct _ _,v,x,k,r=>by unfold KH at k;exact k.elim
 | .scr _,v,x,k,r=>by unfold KH at k;exact k.elim
 | .obj _ _,v,x,k,r=>by unfold KH at k;exact k.elim
theorem Bj.is (ok:pb P w H h):∀{us:List U} {vs:List V} {xs:List F},Bj H us vs->bf vs xs->iM h us xs
 | [],vs,xs,k,r=>by
  unfold Bj at k;subst k;cases r;rfl
 |u::us,vs,xs,k,r=>by
  unfold Bj at k;obtain⟨v,vr,rfl,p,z⟩:=k;cases r with
  |cons r1 r2=>
   unfold iM;exact⟨_,_,rfl,KH.is ok p r1,Bj.is ok z r2⟩
end
def Vv (H:Hp)(us:List U)(b:G):Prop:=PY us<=6/\∃ys,H b=J (.tup ys)/\us.length<=Â/\Bj H us ys
theorem Vv.to (e:∀b ys,H b=J (.tup ys)->H' b=J (.tup ys))(k:Vv H us b):Vv H' us b:=by
 obtain⟨l,ys,q,n,z⟩:=k;exact⟨l,ys,e b ys q,n,z.to e⟩
structure PZ (H:Hp)(a:G)(es:List (List U×G×V)):Prop where
 ob:(∃ep,H a=J (DN a ep es))\/(es=[]/\H a=J (.dK []))
 nd:(es.map (·.1)).Nodup
 key:∀e∈es,Vv H e.1 e.2.1
end L2
namespace L2
noncomputable def kU:md->U
 | .inl i=>.int i
 | .inr x=>.str x
def KS (H:Hp)(a:G)(ks:List U)(xs:List V):Prop:=
 (∃gU:List (md×V),H a=J (.dK gU)/\ks=gU.map (λp=>kU p.1)/\xs=gU.map (·.2)) \/
 ∃es:List (List U×G×V),es≠[]/\PZ H a es/\ks=es.map (λp=>.tup p.1)/\xs=es.map (·.2.2)
noncomputable abbrev Tq:=KS
def KS.at (h:Tq H a ks xs):KS H a ks xs:=h
theorem PZ.ne {es:List (List U×G×V)}(h:PZ H a es)(n:es≠[]):∃ep,H a=J (DN a ep es):=by
 rcases h.ob with q|⟨e,_⟩
 ·exact q
 ·exact absurd e n
def Ly (K:Ê)(H:Hp)(a:G)(xs:List V):Prop:=(∃o,H a=J (.frz o (.lst xs))) \/
  ∃(o:Obj) (its:Array F) (n:Nat),K.lookup a=J o/\o.cls=.type "list"/\o.dict=Z/\o.data=.seq its n/\its.size<=Â/\bf xs its.toList
theorem Ly.sq (h:Ly K H a xs):eI K H a xs:=by
 rcases h with⟨o,h⟩|h
 ·exact .inl (.inr ⟨o,h⟩)
 ·exact .inr h
theorem Ly.to (h:Ly K H a xs)(e:∀o y,H a=J (.frz o y)->H' a=J (.frz o y)):Ly K H' a xs:=by
 rcases h with⟨o,h⟩|h
 ·exact .inl ⟨o,e _ _ h⟩
 ·exact .inr h
structure CO (K:Ê)(C:G)(fs:List Str):Prop where
 cl:Bi K C
 no:∀f∈fs,jD K C f
 nd:fs.Nodup
mutual
def Rp (K:Ê)(H:Hp)(A:G->Prop):U->V->Prop
 | .non,v=>v=.non
 | .bl b,v=>v=.bl b
 | .int i,v=>v=.int i
 | .str x,v=>v=.str x
 | .tup us,v=>∃a xs,v=.ref a/\H a=J (.tup xs)/\us.length<=Â/\ba K H A us xs
 | .lst us,v=>∃a xs,v=.ref a/\¬A a/\H a=J (.lst xs)/\us.length<=Â/\ba K H A us xs
 | .dct ks us,v=>∃a xs,v=.ref a/\¬A a/\KS H a ks xs/\us.length<=Â/\ba K H A us xs
 | .scr us,v=>∃a xs,v=.ref a/\Ly K H a xs/\us.length<=Â/\ba K H A us xs
 | .obj fs us,v=>∃a C dx xs,v=.ref a/\H a=J (.ins C dx (fs.zip xs))/\CO K C fs/\us.length=fs.length/\ba K H A us xs
def ba (K:Ê)(H:Hp)(A:G->Prop):List U->List V->Prop
 | [],xs=>xs=[]
 |u::us,xs=>∃x r,xs=x::r/\Rp K H A u x/\ba K H A us r
end
def nD (K:Ê)(H:Hp)(A:G->Prop):U->G->Prop
 | .lst us,a=>∃xs,H a=J (.lst xs)/\us.length<=Â/\ba K H A us xs
 | .dct ks us,a=>∃xs,Tq H a ks xs/\us.length<=Â/\ba K H A us xs
 |_,_=>False
def Pk (K:Ê)(H:Hp)(A:G->Prop):U->V->Prop
 | .non,v=>v=.non
 | .bl b,v=>v=.bl b
 | .int i,v=>v=.int i
 | .str x,v=>v=.str x
 | .tup us,v=>∃a xs,v=.ref a/\H a=J (.tup xs)/\us.length<=Â/\ba K H A us xs
 | .lst us,v=>∃a xs,v=.ref a/\H a=J (.lst xs)/\us.length<=Â/\ba K H A us xs
 | .dct ks us,v=>∃a xs,v=.ref a/\KS H a ks xs/\us.length<=Â/\ba K H A us xs
 | .scr us,v=>∃a xs,v=.ref a/\Ly K H a xs/\us.length<=Â/\ba K H A us xs
 | .obj fs us,v=>∃a C dx xs,v=.ref a/\H a=J (.ins C dx (fs.zip xs))/\CO K C fs/\us.length=fs.length/\ba K H A us xs
def Mu:Option HO->Prop
 |some (.lst _)=>True
 |some (.dK _)=>True
 |some (.dT _)=>True
 |some (.ext _)=>True
 |_=>False
theorem Mu.ex {o:Option HO}(h:Mu o):∃x,o=.some x:=by
 cases o with
 |none=>exact h.elim
 |some x=>exact⟨x,rfl⟩
def eQ (A:G->Prop)(H H':Hp):Prop:=∀b o,¬A b->H b=J o->H' b=J o
def eQ.refl:eQ A H H:=λ_ _ _ h=>h
def eQ.trans (a:eQ A H H1)(b:eQ A H1 H2):eQ A H H2:=λc o n h=>b c o n (a c o n h)
def eQ.same (h:aO H H'):eQ A H H':=λb o _ e=>h b o e
section
variable {A':G->Prop}
theorem KS.ex (h:KS H a ks xs):∃o,H a=J o:=by
 rcases h with⟨k,h,_⟩|⟨k,n,h,_⟩
 ·exact⟨_,h⟩
 ·obtain⟨ep,q⟩:=h.ne n;exact⟨_,q⟩
theorem KS.to (h:KS H a ks xs)(e:∀o,H a=J o->H' a=J o)(t:∀b ys,H b=J (.tup ys)->H' b=J (.tup ys)):KS H' a ks xs:=by
 rcases h with⟨k,h,z⟩|⟨k,n,h,z⟩
 ·exact .inl ⟨k,e _ h,z⟩
 ·exact .inr ⟨k,n,⟨h.ob.imp (fun⟨ep,q⟩=>⟨ep,e _ q⟩) (λq=>⟨q.1,e _ q.2⟩),h.nd,λy hy=>(h.key y hy).to t⟩,z⟩
mutual
theorem Rp.re (m:∀b,A b->Mu (H b))(e:eQ A H H')(n:∀b,A' b->A b\/H b=Z):∀{u:U} {v:V},Rp K H A u v->Rp K H' A' u v
 | .non,v,h=>by grind[Rp]
 | .bl b,v,h=>by grind[Rp]
 | .int b,v,h=>by grind[Rp]
 | .str b,v,h=>by grind[Rp]
 | .tup us,v,h=>by
  unfold Rp at h |-;obtain⟨a,xs,r,q,l,z⟩:=h;exact⟨a,xs,r,e a _ (λz=>by have:=m a z;rw[q] at this;exact this) q,l,ba.re m e n z⟩
 | .lst us,v,h=>by
  unfold Rp at h |-;obtain⟨a,xs,r,na,q,l,z⟩:=h;refine⟨a,xs,r,λy=>?_,e a _ na q,l,ba.re m e n z⟩;rcases n a y with y|y
  ·exact na y
  ·rw[q] at y;cases y
 | .scr us,v,h=>by
  unfold Rp at h |-;obtain⟨a,xs,r,q,l,z⟩:=h;exact⟨a,xs,r,q.to λo y w=>e a _ (λz=>by have:=m a z;rw[w] at this;exact this) w,l,ba.re m e n z⟩
 | .obj fs us,v,h=>by
  unfold Rp at h |-;obtain⟨a,C,dx,xs,r,q,c,l,z⟩:=h;exact⟨a,C,dx,xs,r,e a _ (λz=>by have:=m a z;rw[q] at this;exact this) q,c,l,ba.re m e n z⟩
 | .dct ks us,v,h=>by
  unfold Rp at h |-;obtain⟨a,xs,r,na,q,l,z⟩:=h;refine⟨a,xs,r,λy=>?_,q.to (λo w=>e a o na w) (λb ys w=>e b _ (λy=>by have:=m b y;rw[w] at this;exact this) w),l,ba.re m e n z⟩;obtain⟨o,w⟩:=q.ex;grind
theorem ba.re (m:∀b,A b->Mu (H b))(e:eQ A H H')(n:∀b,A' b->A b\/H b=Z):∀{us:List U} {vs:List V},ba K H A us vs->ba K H' A' us vs
 | [],vs,h=>by grind[ba]
 |u::us,vs,h=>by
  unfold ba at h |-;obtain⟨x,r,q,p,z⟩:=h;exact⟨x,r,q,Rp.re m e n p,ba.re m e n z⟩
end
mutual
theorem Rp.mono (n:∀b,A' b->A b):∀{u:U} {v:V},Rp K H A u v->Rp K H A' u v
 | .non,v,h=>by unfold Rp at h |-;exact h
 | .bl b,v,h=>by unfold Rp at h |-;exact h
 | .int b,v,h=>by unfold Rp at h |-;exact h
 | .str b,v,h=>by unfold Rp at h |-;exact h
 | .tup us,v,h=>by
  unfold Rp at h |-;obtain⟨a,xs,r,q,l,z⟩:=h;exact⟨a,xs,r,q,l,ba.mono n z⟩
 | .lst us,v,h=>by
  unfold Rp at h |-;obtain⟨a,xs,r,na,q,l,z⟩:=h;exact⟨a,xs,r,λy=>na (n a y),q,l,ba.mono n z⟩
 | .scr us,v,h=>by
  unfold Rp at h |-;obtain⟨a,xs,r,q,l,z⟩:=h;exact⟨a,xs,r,q,l,ba.mono n z⟩
 | .obj fs us,v,h=>by
  unfold Rp at h |-;obtain⟨a,C,dx,xs,r,q,c,l,z⟩:=h;exact⟨a,C,dx,xs,r,q,c,l,ba.mono n z⟩
 | .dct ks us,v,h=>by
  unfold Rp at h |-;obtain⟨a,xs,r,na,q,l,z⟩:=h;exact⟨a,xs,r,λy=>na (n a y),q,l,ba.mono n z⟩
theorem ba.mono (n:∀b,A' b->A b):∀{us:List U} {vs:List V},ba K H A us vs->ba K H A' us vs
 | [],vs,h=>by unfold ba at h |-;exact h
 |u::us,vs,h=>by
  unfold ba at h |-;obtain⟨x,r,q,p,z⟩:=h;exact⟨x,r,q,Rp.mono n p,ba.mono n z⟩
end
mutual
theorem Rp.same (e:aO H H'):∀{u:U} {v:V},Rp K H A u v->Rp K H' A u v
 | .non,v,h=>by unfold Rp at h |-;exact h
 | .bl b,v,h=>by unfold Rp at h |-;exact h
 | .int b,v,h=>by unfold Rp at h |-;exact h
 | .str b,v,h=>by unfold Rp at h |-;exact h
 | .tup us,v,h=>by
  unfold Rp at h |-;obtain⟨a,xs,r,q,l,z⟩:=h;exact⟨a,xs,r,e a _ q,l,ba.same e z⟩
 | .lst us,v,h=>by
  unfold Rp at h |-;obtain⟨a,xs,r,na,q,l,z⟩:=h;exact⟨a,xs,r,na,e a _ q,l,ba.same e z⟩
 | .scr us,v,h=>by
  unfold Rp at h |-;obtain⟨a,xs,r,q,l,z⟩:=h;exact⟨a,xs,r,q.to λo y w=>e a _ w,l,ba.same e z⟩
 | .obj fs us,v,h=>by
  unfold Rp at h |-;obtain⟨a,C,dx,xs,r,q,c,l,z⟩:=h;exact⟨a,C,dx,xs,r,e a _ q,c,l,ba.same e z⟩
 | .dct ks us,v,h=>by
  unfold Rp at h |-;obtain⟨a,xs,r,na,q,l,z⟩:=h;exact⟨a,xs,r,na,q.to (λo w=>e a o w) (λb ys w=>e b _ w),l,ba.same e z⟩
theorem ba.same (e:aO H H'):∀{us:List U} {vs:List V},ba K H A us vs->ba K H' A us vs
 | [],vs,h=>by unfold ba at h |-;exact h
 |u::us,vs,h=>by
  unfold ba at h |-;obtain⟨x,r,q,p,z⟩:=h;exact⟨x,r,q,Rp.same e p,ba.same e z⟩
end
theorem ba.length:∀{us:List U} {vs:List V},ba K H A us vs->us.length=vs.length
 | [],_,h=>by subst h;rfl
 |u::us,_,h=>by
  obtain⟨x,r,rfl,_,q⟩:=h;rw[Ò,Ò,ba.length q]
theorem ba.get:∀{us:List U} {vs:List V} {i:Nat} {u:U},ba K H A us vs->us[i]? = J u->∃v,vs[i]? = J v/\Rp K H A u v
 | [],_,_,_,_,e=>by simp at e
 |w::us,_,i,u,h,e=>by
  obtain⟨x,r,rfl,p,q⟩:=h;cases i with
  |zero=>simp at e;subst e;exact⟨x,by simp,p⟩
  |succ i=>
   obtain⟨v,a,b⟩:=ba.get q (by simpa using e);exact⟨v,by simpa using a,b⟩
def ba.nil:ba K H A [] []:=by rfl
def ba.cons (h:Rp K H A u v)(t:ba K H A us vs):ba K H A (u::us) (v::vs):=by exact⟨v,vs,rfl,h,t⟩
theorem ba.append:∀{us ws:List U} {vs xs:List V},ba K H A us vs->ba K H A ws xs->ba K H A (us++ws) (vs++xs)
 | [],ws,vs,xs,h,t=>by subst h;exact t
 |u::us,ws,vs,xs,h,t=>by
  obtain⟨x,r,rfl,p,q⟩:=h;exact ba.cons p (ba.append q t)
theorem ba.take:∀{us:List U} {vs:List V} (n:Nat),ba K H A us vs->ba K H A (us.take n) (vs.take n)
 | [],vs,n,h=>by subst h;simp;exact ba.nil
 |u::us,vs,0,h=>by exact ba.nil
 |u::us,vs,n+1,h=>by
  obtain⟨x,r,rfl,p,q⟩:=h;exact ba.cons p (ba.take n q)
theorem ba.drop:∀{us:List U} {vs:List V} (n:Nat),ba K H A us vs->ba K H A (us.drop n) (vs.drop n)
 | [],vs,n,h=>by subst h;simp;exact ba.nil
 |u::us,vs,0,h=>h
 |u::us,vs,n+1,h=>by
  obtain⟨x,r,rfl,p,q⟩:=h;exact ba.drop n q
theorem ba.set:∀{us:List U} {vs:List V} (n:Nat) {u:U} {v:V},Rp K H A u v->ba K H A us vs->ba K H A (us.set n u) (vs.set n v)
 | [],vs,n,_,_,_,h=>by subst h;exact ba.nil
 |u::us,vs,0,_,_,p',h=>by
  obtain⟨x,r,rfl,p,q⟩:=h;exact ba.cons p' q
 |u::us,vs,n+1,_,_,p',h=>by
  obtain⟨x,r,rfl,p,q⟩:=h;exact ba.cons p (ba.set n p' q)
theorem Rp.pk (h:Rp K H A u v):Pk K H A u v:=by
 cases u<;>(unfold Pk)
 case lst us=>obtain⟨a,xs,r,na,q⟩:=h;exact⟨a,xs,r,q⟩
 case dct ks us=>obtain⟨a,xs,r,na,q⟩:=h;exact⟨a,xs,r,q⟩
 all_goals exact h
theorem Pk.same (e:aO H H')(h:Pk K H A u v):Pk K H' A u v:=by
 cases u<;>(unfold Pk at h |-)
 case tup us=>obtain⟨a,xs,r,q,l,z⟩:=h;exact⟨a,xs,r,e a _ q,l,z.same e⟩
 case lst us=>obtain⟨a,xs,r,q,l,z⟩:=h;exact⟨a,xs,r,e a _ q,l,z.same e⟩
 case scr us=>obtain⟨a,xs,r,q,l,z⟩:=h;exact⟨a,xs,r,q.to λo y w=>e a _ w,l,z.same e⟩
 case obj fs us=>obtain⟨a,C,dx,xs,r,q,c,l,z⟩:=h;exact⟨a,C,dx,xs,r,e a _ q,c,l,z.same e⟩
 case dct ks us=>obtain⟨a,xs,r,q,l,z⟩:=h;exact⟨a,xs,r,q.to (λo w=>e a o w) (λb ys w=>e b _ w),l,z.same e⟩
 all_goals exact h
theorem nD.pk (h:nD K H A u a):Pk K H A u (.ref a):=by
 cases u<;>(unfold Pk)
 case lst us=>obtain⟨xs,q,l,z⟩:=h;exact⟨a,xs,rfl,q,l,z⟩
 case dct ks us=>obtain⟨xs,q,l,z⟩:=h;exact⟨a,xs,rfl,q.at,l,z⟩
 all_goals exact h.elim
theorem nD.rp (h:nD K H A u a)(n:∀b,A' b->A b)(na:¬A' a):Rp K H A' u (.ref a):=by
 cases u<;>(unfold Rp)
 case lst us=>obtain⟨xs,q,l,z⟩:=h;exact⟨a,xs,rfl,na,q,l,z.mono n⟩
 case dct ks us=>obtain⟨xs,q,l,z⟩:=h;exact⟨a,xs,rfl,na,q.at,l,z.mono n⟩
 all_goals exact h.elim
theorem nD.re (m:∀b,A b->Mu (H b))(e:eQ A H H')(n:∀b,A' b->A b\/H b=Z)(ea:∀o,H a=J o->H' a=J o)(h:nD K H A u a):nD K H' A' u a:=by
 cases u<;>(unfold nD at h |-)
 case lst us=>obtain⟨xs,q,l,z⟩:=h;exact⟨xs,ea _ q,l,z.re m e n⟩
 case dct ks us=>obtain⟨xs,q,l,z⟩:=h;exact⟨xs,q.to ea (λb ys w=>e b _ (λy=>by have:=m b y;rw[w] at this;exact this) w),l,z.re m e n⟩
 all_goals exact h.elim
theorem nD.mu (h:nD K H A u a):Mu (H a):=by
 cases u<;>(unfold nD at h)
 case lst us=>obtain⟨xs,q,_⟩:=h;rw[q];trivial
 case dct ks us=>
  obtain⟨xs,q,_⟩:=h;rcases q with⟨k,q,_⟩|⟨k,n,q,_⟩
  ·rw[q];trivial
  ·obtain⟨ep,q⟩:=q.ne n;rw[q];trivial
 all_goals exact h.elim
end
structure Pkg where
 A0:G->Prop
 B:Hp
 a0:G
structure Gm where
 own:List Bool
 io:Bool
 W:Hp->Prop
noncomputable def Gm.is (G:Gm)(i:Nat):Bool:=G.own.getD i Y
structure c_ (K:Ê)(G:Gm)(Zq:Pkg)(A:Õ->Prop)(B:Ev)(L:St)(H:Hp):Prop where
 slot:∀i u,B[i]? = J (J u)->∃v,L[i]? = J (J v)/\if G.is i=M then (∃a,v=.ref a/\A a/\Zq.B a=Z/\(¬Zq.A0 a\/(G.io=M/\i=0))/\nD K H A u a) else Rp K H A u v
 dis:∀i j u w a,G.is i=M->G.is j=M->i≠j->B[i]? = J (J u)->B[j]? = J (J w)->L[i]? = J (J (.ref a))->L[j]? = J (J (.ref a))->False
 mu:∀a,A a->Mu (H a)
 sup:∀a,Zq.A0 a->A a
 out:∀a,A a->Zq.A0 a\/Zq.B a=Z
 bas:∀a o,Zq.B a=J o->H a=J o
 io0:G.io=M->L[0]? = J (J (.ref Zq.a0))/\G.is 0=M
 len:B.length=L.length
section
variable {A':Õ->Prop}{G:Gm}{Zq:Pkg}{B':Ev}
theorem c_.same (r:c_ K G Zq A B L H)(e:aO H H'):c_ K G Zq A B L H' where
 slot:=λi u h=>by
  obtain⟨v,h1,h2⟩:=r.slot i u h;refine⟨v,h1,?_⟩;by_cases c:G.is i=M
  ·rw[hV c] at h2 |-;obtain⟨a,e1,e2,e3,e4,e5⟩:=h2;exact⟨a,e1,e2,e3,e4,e5.re r.mu (eQ.same e) (λb z=>.inl z) λo w=>e a o w⟩
  ·rw[hU c] at h2 |-;exact h2.same e
 dis:=r.dis
 mu:=λa h=>by
  have m:=r.mu a h;obtain⟨o,q⟩:=m.ex;rw[e a o q,<-q];exact m
 sup:=r.sup
 out:=r.out
 bas:=λa o h=>e a o (r.bas a o h)
 io0:=r.io0
 len:=r.len
theorem c_.add (r:c_ K G Zq A B L H)(e:aO H H')(n:H a=Z)(m:Mu (H' a)):c_ K G Zq (λb=>A b\/b=a) B L H' where
 slot:=λi u h=>by
  have q:∀b,(A b\/b=a)->A b\/H b=Z:=λb z=>by
   rcases z with z|z
   ·exact .inl z
   ·subst z;exact .inr n
  obtain⟨v,h1,h2⟩:=r.slot i u h;refine⟨v,h1,?_⟩;by_cases c:G.is i=M
  ·rw[hV c] at h2 |-;obtain⟨b,e1,e2,e3,e4,e5⟩:=h2;exact⟨b,e1,.inl e2,e3,e4,e5.re r.mu (eQ.same e) q λo w=>e b o w⟩
  ·rw[hU c] at h2 |-;exact h2.re r.mu (eQ.same e) q
 dis:=r.dis
 mu:=λb h=>by
  rcases h with h|h
  ·exact (r.same e).mu b h
  ·subst h;exact m
 sup:=λb h=>.inl (r.sup b h)
 out:=λb h=>by
  rcases h with h|h
  ·exact r.out b h
  ·subst h;refine .inr ?_;cases q:Zq.B b with
   |none=>rfl
   |some o=>rw[r.bas b o q] at n;cases n
 bas:=λa o h=>e a o (r.bas a o h)
 io0:=r.io0
 len:=r.len
def c_.notA (r:c_ K G Zq A B L H)(n:H a=Z):¬A a:=λz=>by
 have:=r.mu a z;rw[n] at this;exact this
theorem c_.notB (r:c_ K G Zq A B L H)(n:H a=Z):Zq.B a=Z:=by
 cases q:Zq.B a with
 |none=>rfl
 |some o=>rw[r.bas a o q] at n;cases n
theorem c_.val (r:c_ K G Zq A B L H)(c:G.is i=Y)(h:B[i]? = J (J u)):∃v,L[i]? = J (J v)/\Rp K H A u v:=by
 obtain⟨v,h1,h2⟩:=r.slot i u h;rw[hU (by rw[c];exact ü)] at h2;exact⟨v,h1,h2⟩
theorem c_.own (r:c_ K G Zq A B L H)(c:G.is i=M)(h:B[i]? = J (J u)):∃a,L[i]? = J (J (.ref a))/\A a/\Zq.B a=Z/\(¬Zq.A0 a\/(G.io=M/\i=0))/\nD K H A u a:=by
 obtain⟨v,h1,h2⟩:=r.slot i u h;rw[hV c] at h2;obtain⟨a,rfl,z⟩:=h2;exact⟨a,h1,z⟩
end
end L2
variable {Zq:L2.Pkg}
namespace L2
inductive Md where
 |S|O|P
 deriving DecidableEq
def rS (K:Ê)(G:Gm)(Zq:Pkg)(m:Md)(A:Õ->Prop)(B:Ev)(L:St)(H:Hp)(u:U)(v:V):Prop:=match m with
 | .S=>Rp K H A u v
 | .P=>Pk K H A u v
 | .O=>∃a,v=.ref a/\¬A a/\Zq.B a=Z/\c_ K G Zq (λb=>A b\/b=a) B L H/\nD K H (λb=>A b\/b=a) u a
def Hk (K:Ê)(m:Md)(A:G->Prop)(H H':Hp)(u:U)(v:V):Prop:=match m with
 | .S=>Rp K H' A u v
 | .P=>Pk K H' A u v
 | .O=>∃a,v=.ref a/\H a=Z/\nD K H' (λb=>A b\/b=a) u a
def Lz (K:Ê)(G:Gm)(Zq:Pkg)(A:Õ->Prop)(b:Bool)(m:Md)(B:Ev)(L:St)(H:Hp):R (U×Ev)->VK->Prop
 | .ok (u,B'),Q=>∀v H',c_ K G Zq A B' L H'->eQ A H H'->(b=Y->B'=B/\aO H H')->rS K G Zq m A B' L H' u v->Q v H'
 |_,_=>False
def tD (K:Ê)(G:Gm)(b:Bool)(m:Md)(g:Ev->R (U×Ev)):TE:=λL H Q=>∃Zq A B,c_ K G Zq A B L H/\Lz K G Zq A b m B L H (g B) Q
structure DE (X:Cx)(G:Gm)(e:É)(b:Bool)(m:Md)(g:Ev->R (U×Ev)):Prop where
 un:PE X e (tD X.K G b m g)
def LA (K:Ê)(G:Gm)(Zq:Pkg)(A:Õ->Prop)(b:Bool)(B:Ev)(L:St)(H:Hp):R (Bool×Ev)->(Bool->Hp->Prop)->Prop
 | .ok (c,B'),Q=>∀H',c_ K G Zq A B' L H'->eQ A H H'->(b=Y->B'=B/\aO H H')->Q c H'
 |_,_=>False
def Gh (K:Ê)(G:Gm)(b:Bool)(g:Ev->R (Bool×Ev)):TT:=λL H Q=>∃Zq A B,c_ K G Zq A B L H/\LA K G Zq A b B L H (g B) Q
structure DT (X:Cx)(G:Gm)(e:É)(b:Bool)(g:Ev->R (Bool×Ev)):Prop where
 un:PT X e (Gh X.K G b g)
def KU (K:Ê)(H:Hp)(A:G->Prop):List U->List V->Prop
 | [],vs=>vs=[]
 |u::us,vs=>∃x r,vs=x::r/\Pk K H A u x/\KU K H A us r
def So (K:Ê)(p:Bool)(A:G->Prop)(H:Hp)(us:List U)(vs:List V):Prop:=if p=M then KU K H A us vs else ba K H A us vs
def LB (K:Ê)(G:Gm)(Zq:Pkg)(A:Õ->Prop)(b p:Bool)(B:Ev)(L:St)(H:Hp):R (List U×Ev)->(List V->Hp->Prop)->Prop
 | .ok (us,B'),Q=>∀vs H',c_ K G Zq A B' L H'->eQ A H H'->(b=Y->B'=B/\aO H H')->So K p A H' us vs->Q vs H'
 |_,_=>False
def Wj (K:Ê)(G:Gm)(b p:Bool)(g:Ev->R (List U×Ev)):TA:=λL H Q=>∃Zq A B,c_ K G Zq A B L H/\LB K G Zq A b p B L H (g B) Q
structure DA (X:Cx)(G:Gm)(es:List É)(b p:Bool)(g:Ev->R (List U×Ev)):Prop where
 un:PA X es (Wj X.K G b p g)
section
variable {e:É}{t t':TE}
def PE.to (h:PE X e t)(i:∀L H Q,t' L H Q->t L H Q):PE X e t':=λpins s L H Q I q=>h pins s L H Q I (i _ _ _ q)
def PT.to {t t':TT}(h:PT X e t)(i:∀L H Q,t' L H Q->t L H Q):PT X e t':=λpins s L H Q I q=>h pins s L H Q I (i _ _ _ q)
def PW.to {t t':TT}(h:PW X e t)(i:∀L H Q,t' L H Q->t L H Q):PW X e t':=λo7 pins s L H Q I q=>h o7 pins s L H Q I (i _ _ _ q)
def PA.to {t t':TA}(h:PA X es t)(i:∀L H Q,t' L H Q->t L H Q):PA X es t':=λpos pins s L H Q I q=>h pos pins s L H Q I (i _ _ _ q)
def PS.to {t t':TS}(h:PS X st t)(i:∀D L H,t' D L H->t D L H):PS X st t':=λpins s L H D I q=>h pins s L H D I (i _ _ _ q)
def vy.to {st:List Ô}{t t':TS}(h:vy X st t)(i:∀D L H,t' D L H->t D L H):vy X st t':=λpins s L H D I q=>h pins s L H D I (i _ _ _ q)
def PG.to {t t':TG}(h:PG X e t)(i:∀v L H Q,t' v L H Q->t v L H Q):PG X e t':=λpins s L H v u Q I r q=>h pins s L H v u Q I r (i _ _ _ _ q)
end
section
variable {G:Gm}{A':Õ->Prop}{B':Ev}{m:Md}{b:Bool}
theorem rS.rp (h:rS K G Zq m A B L H u v)(n:m≠.P):Rp K H A u v:=by
 cases m with
 |S=>exact h
 |O=>
  obtain⟨a,rfl,na,_,_,t⟩:=h;exact t.rp (λb z=>.inl z) na
 |P=>exact absurd rfl n
theorem rS.pk (h:rS K G Zq m A B L H u v):Pk K H A u v:=by
 by_cases c:m=.P
 ·subst c;exact h
 ·exact (h.rp c).pk
theorem Hk.e (r:c_ K G Zq A B L H)(s:aO H H')(h:Hk K m A H H' u v):rS K G Zq m A B L H' u v:=by
 cases m with
 |S=>exact h
 |P=>exact h
 |O=>
  obtain⟨a,rfl,n,t⟩:=h;exact⟨a,rfl,r.notA n,r.notB n,r.add s n t.mu,t⟩
def rS.later (r:c_ K G Zq A B L H)(h:rS K G Zq m A B L H u v)(x:eQ A H H')(s:b=Y->B'=B/\aO H H')(c:m=.P->b=Y):Pk K H' A u v:=by
 by_cases d:m=.P
 ·exact h.pk.same (s (c d)).2
 ·exact ((h.rp d).re r.mu x λb z=>.inl z).pk
def rS.laterS (r:c_ K G Zq A B L H)(h:rS K G Zq m A B L H u v)(x:eQ A H H')(d:m≠.P):Rp K H' A u v:=(h.rp d).re r.mu x λb z=>.inl z
theorem two {b1 b2:Bool}{B1 B2:Ev}(h1:b1=Y->B1=B/\aO H H1)(h2:b2=Y->B2=B1/\aO H1 H2):(b1||b2)=Y->B2=B/\aO H H2:=λh=>by
 rw[Ĩ] at h;obtain⟨a,b⟩:=h1 h.1;obtain⟨c,d⟩:=h2 h.2;exact⟨c.trans a,b.trans d⟩
def nQ {b1:Bool}{B1:Ev}(h1:b1=Y->B1=B/\aO H H1)(h2:aO H1 H2):b1=Y->B1=B/\aO H H2:=λh=>⟨(h1 h).1,(h1 h).2.trans h2⟩
end
noncomputable def af (i:Nat):Ev->R (U×Ev):=λB=>match B[i]? with
 |some (J u)=>.ok (u,B)
 |_=>.stk
noncomputable def gC (u:U):Ev->R (U×Ev):=λB=>.ok (u,B)
section
variable {G:Gm}{e a b:É}
theorem Tr {b:Bool}{m:Md}(h:PE X e (mO i))(c:G.is i=Y):DE X G e Y .S (af i):=by
 refine⟨h.to λL H Q h00=>?_⟩;obtain⟨Zq,A,B,r,f⟩:=h00;unfold af at f;split at f
 ·rename_i u hu;obtain⟨v,h1,h2⟩:=r.val c hu;exact⟨v,h1,f v H r eQ.refl (λ_=>⟨rfl,aO.refl _⟩) h2⟩
 ·exact f.elim
def ak (i:Nat)(hN:X.N[i]? = J x:=by rfl)(hv:EK X.env.scope x:=by first|exact Or.inl rfl|exact Or.inr (Or.inl rfl)|exact Or.inr (Or.inr rfl))(hd:(x==("__debug__":Str))=Y:=by decide)
  (iQ:(x==("__classdict__":Str))=Y:=by decide) (c:G.is i=Y:=by rfl):DE X G (.Name x pos) Y .S (af i):=Tr (b:=Y) (m:=.S) (i5 hN hv hd iQ) c
theorem i8 (i:Nat)(hN:X.N[i]? = J x:=by rfl)(hv:EK X.env.scope x:=by first|exact Or.inl rfl|exact Or.inr (Or.inl rfl)|exact Or.inr (Or.inr rfl))(hd:(x==("__debug__":Str))=Y:=by decide)
  (iQ:(x==("__classdict__":Str))=Y:=by decide) (c:G.is i=M:=by rfl):DE X G (.Name x pos) Y .P (af i):=by
 refine⟨(i5 hN hv hd iQ).to λL H Q h00=>?_⟩;obtain⟨Zq,A,B,r,f⟩:=h00;unfold af at f;split at f
 ·rename_i u hu;obtain⟨a,h1,_,_,_,h2⟩:=r.own c hu;exact⟨.ref a,h1,f _ H r eQ.refl (λ_=>⟨rfl,aO.refl _⟩) h2.pk⟩
 ·exact f.elim
def LC (h:PE X e (tC v))(r:∀K H A,Rp K H A u v):DE X G e Y .S (gC u):=by
 refine⟨h.to λL H Q h00=>?_⟩;obtain⟨Zq,A,B,q,f⟩:=h00;exact f v H q eQ.refl (λ_=>⟨rfl,aO.refl _⟩) (r _ _ _)
def aj {i j pos}:DE X G (.Constant (.int i) j pos) Y .S (gC (.int i)):=LC Bq λ_ _ _=>by rfl
def eR {i j pos}:DE X G (.Constant (.bool i) j pos) Y .S (gC (.bl i)):=LC Ng λ_ _ _=>by rfl
def bA {i j pos}:DE X G (.Constant (.str i) j pos) Y .S (gC (.str i)):=LC xk λ_ _ _=>by rfl
def kD {i:Int}{tk:Tok}(hg:Gl X x)(hm:X.mg x=J (.int i tk))(hd:(x==("__debug__":Str))=Y:=by decide):DE X G (.Name x pos) Y .S (gC (.int i)):=LC (v:=.int i) (K7 hg hm ⟨_,rfl⟩ hd) λ_ _ _=>by rfl
def aI (p:U->U->R U)(g1 g2:Ev->R (U×Ev)):Ev->R (U×Ev):=λB=>(g1 B).bind λx=>(g2 x.2).bind λy=>(p x.1 y.1).bind λz=>.ok (z,y.2)
def ez (K:Ê)(r:R2)(m:Md)(p:U->U->R U):Prop:=∀A H x y u w z Q,Pk K H A u x->Pk K H A w y->(∀a,A a->Mu (H a))->p u w=.ok z->(∀v H',aO H H'->Hk K m A H H' z v->Q v H')->r x y H Q
variable {b1 b2 b3:Bool}{m1 m2 m3 mr:Md}{g1 g2 g3:Ev->R (U×Ev)}
theorem rV {r:R2}(hp:ez X.K r mr p)(hm:m1=.P->b2=Y){Q:VK}(h:tD X.K G (b1||b2) mr (aI p g1 g2) L H Q) :
  Gg r (tD X.K G b1 m1 g1) (tD X.K G b2 m2 g2) L H Q:=by
 obtain⟨Zq,A,B,q,f⟩:=h;unfold aI at f;refine⟨Zq,A,B,q,?_⟩;cases e1:g1 B with
 |stk=>rw[e1] at f;exact f.elim
 |exc=>rw[e1] at f;exact f.elim
 |ok x=>
  obtain⟨u,B1⟩:=x;rw[e1] at f;intro v1 H1 q1 x1 s1 sJ;refine⟨Zq,A,B1,q1,?_⟩;cases e2:g2 B1 with
  |stk=>simp only[R.bind,e2] at f;exact f.elim
  |exc=>simp only[R.bind,e2] at f;exact f.elim
  |ok y=>
   obtain⟨w,B2⟩:=y;simp only[R.bind,e2] at f;intro v2 H2 q2 x2 s2 yN;cases e3:p u w with
   |stk=>rw[e3] at f;exact f.elim
   |exc=>rw[e3] at f;exact f.elim
   |ok z=>
    rw[e3] at f;refine hp A H2 v1 v2 u w z Q (sJ.later q1 x2 s2 hm) yN.pk q2.mu e3 λv H' sm vm=>?_;exact f v H' (q2.same sm) ((x1.trans x2).trans (eQ.same sm)) (nQ (two s1 s2) sm) (vm.e q2 sm)
def a_ {op:Operator}{r:R2}(ho:iL X (Ę op) r)(hp:ez X.K r mr p)(ha:DE X G a b1 m1 g1)(hb:DE X G b b2 m2 g2)(hm:m1=.P->b2=Y:=by first|exact λ_=>rfl|exact λh=>nomatch h) :
  DE X G (.BinOp a op b pos) (b1||b2) mr (aI p g1 g2):=⟨(GB ho ha.un hb.un).to λ_ _ _=>rV hp hm⟩
def g9 {r:R2}(ho:iL X (ú op) r)(hp:ez X.K r mr p)(ha:DE X G a b1 m1 g1)(hb:DE X G b b2 m2 g2)(hk:Ű op b=Y)(hm:m1=.P->b2=Y:=by first|exact λ_=>rfl|exact λh=>nomatch h) :
  DE X G (.Compare a [op] [b] pos) (b1||b2) mr (aI p g1 g2):=⟨(Lf ho ha.un hb.un hk).to λ_ _ _=>rV hp hm⟩
def aZ {r:R2}(ho:KQ X r)(hp:ez X.K r mr p)(ha:DE X G a b1 m1 g1)(hb:DE X G b b2 m2 g2)(hs:xw b)(hm:m1=.P->b2=Y:=by first|exact λ_=>rfl|exact λh=>nomatch h) :
  DE X G (.Subscript a b pos) (b1||b2) mr (aI p g1 g2):=⟨(Nl ho ha.un hb.un hs).to λ_ _ _=>rV hp hm⟩
def gB (g:Ev->R (U×Ev)):Ev->R (Bool×Ev):=λB=>(g B).bind λx=>match x.1 with
 | .bl c=>.ok (c,x.2)
 |_=>.stk
theorem pG {g:Ev->R (U×Ev)}{m:Md}{Q:Bool->Hp->Prop}(h:Gh X.K G b1 (gB g) L H Q):tD X.K G b1 m g L H λx H'=>∃k,x=.bl k/\Q k H':=by
 obtain⟨Zq,A,B,q,f⟩:=h;refine⟨Zq,A,B,q,?_⟩;unfold gB at f;cases e1:g B with
 |stk=>rw[e1] at f;exact f.elim
 |exc=>rw[e1] at f;exact f.elim
 |ok x=>
  obtain⟨u,B1⟩:=x;rw[e1] at f;intro v H1 q1 x1 s1 vm;cases u with
  |bl c=>
   have e:=by have:=vm.pk;exact this
   exact⟨c,e,f H1 q1 x1 s1⟩
  |_=>exact f.elim
def eA (h:DE X G e b1 m1 g1)(he:∀o7,isTrue e X.env o7=(do let v ←o7;standAt e.pos;ę [v] (truthy v)):=by intro _;rfl):DT X G e b1 (gB g1):=⟨(Gu h.un he).to λ_ _ _ h=>pG h⟩
def aS {r:R2}(ho:iL X (ú op) r)(hp:ez X.K r mr p)(ha:DE X G a b1 m1 g1)(hb:DE X G b b2 m2 g2)(hk:Ű op b=Y)(hm:m1=.P->b2=Y:=by first|exact λ_=>rfl|exact λh=>nomatch h) :
  DT X G (.Compare a [op] [b] pos) (b1||b2) (gB (aI p g1 g2)):=⟨(nH ho ha.un hb.un hk).to λ_ _ _ h=>rV hp hm (pG h)⟩
end
end L2
namespace L2
section
variable {G:Gm}{A':Õ->Prop}{B':Ev}{b p:Bool}{m:Md}{α:Type}
theorem Lz.bind {x:R α}{k:α->R (U×Ev)}{Q:VK}(f:Lz K G Zq A b m B L H (x.bind k) Q):∃a,x=.ok a/\Lz K G Zq A b m B L H (k a) Q:=by
 cases x with
 |ok a=>exact⟨a,rfl,f⟩
 |exc=>exact f.elim
 |stk=>exact f.elim
theorem LA.bind {x:R α}{k:α->R (Bool×Ev)}{Q:Bool->Hp->Prop}(f:LA K G Zq A b B L H (x.bind k) Q):∃a,x=.ok a/\LA K G Zq A b B L H (k a) Q:=by
 cases x with
 |ok a=>exact⟨a,rfl,f⟩
 |exc=>exact f.elim
 |stk=>exact f.elim
theorem LB.bind {x:R α}{k:α->R (List U×Ev)}{Q:List V->Hp->Prop}(f:LB K G Zq A b p B L H (x.bind k) Q):∃a,x=.ok a/\LB K G Zq A b p B L H (k a) Q:=by
 cases x with
 |ok a=>exact⟨a,rfl,f⟩
 |exc=>exact f.elim
 |stk=>exact f.elim
def Pk.bl {c:Bool}(h:Pk K H A (.bl c) v):v=.bl c:=by exact h
def Pk.int {i:Int}(h:Pk K H A (.int i) v):v=.int i:=by exact h
def Pk.str {i:Str}(h:Pk K H A (.str i) v):v=.str i:=by exact h
def fA {c:Bool}:Rp K H A (.bl c) (.bl c):=by rfl
def dC {c:Int}:Rp K H A (.int c) (.int c):=by rfl
def rS.ofS (h:Rp K H A u v):rS K G Zq .S A B L H u v:=h
def sZ:Rp K H A .non .non:=by rfl
def s9 {c:Str}:Rp K H A (.str c) (.str c):=by rfl
theorem ba.pks:∀{us:List U} {vs:List V},ba K H A us vs->KU K H A us vs
 | [],_,h=>by exact h
 |u::us,_,h=>by
  obtain⟨x,r,e,z,q⟩:=h;exact⟨x,r,e,z.pk,ba.pks q⟩
end
section
variable {G:Gm}{e a b:É}{rest:List É}{b1 b2 b3:Bool}{m1 m2 m3 mr:Md}{g1 g2 g3:Ev->R (U×Ev)}{h1 h2:Ev->R (Bool×Ev)}
def LD (g1 g2:Ev->R (Bool×Ev)):Ev->R (Bool×Ev):=λB=>(g1 B).bind λx=>if x.1=M then g2 x.2 else .ok (Y,x.2)
def ze (g1 g2:Ev->R (Bool×Ev)):Ev->R (Bool×Ev):=λB=>(g1 B).bind λx=>if x.1=M then .ok (M,x.2) else g2 x.2
def jq (g1:Ev->R (Bool×Ev)):Ev->R (Bool×Ev):=λB=>(g1 B).bind λx=>.ok (!x.1,x.2)
structure DW (X:Cx)(G:Gm)(e:É)(b:Bool)(g:Ev->R (Bool×Ev)):Prop where
 un:PW X e (Gh X.K G b g)
def DW.dt (h:DW X G e b1 h1):DT X G e b1 h1:=⟨PW.pt h.un⟩
theorem Hl {Q:Bool->Hp->Prop}(h:Gh X.K G (b1||b2) (LD h1 h2) L H Q):Pe (Gh X.K G b1 h1) (Gh X.K G b2 h2) L H Q:=by
 obtain⟨Zq,A,B,q,f⟩:=h;obtain⟨⟨k,B1⟩,e1,f⟩:=f.bind;refine⟨Zq,A,B,q,?_⟩;rw[e1];intro H1 q1 x1 s1;cases k with
 |true=>
  refine⟨Zq,A,B1,q1,?_⟩;cases e2:h2 B1 with
  |ok y=>rw[e2] at f;exact λH2 q2 x2 s2=>f H2 q2 (x1.trans x2) (two s1 s2)
  |exc=>rw[e2] at f;exact f.elim
  |stk=>rw[e2] at f;exact f.elim
 |false=>
  exact f H1 q1 x1 λz=>s1 (Ĩ.mp z).1
theorem LF {Q:Bool->Hp->Prop}(h:Gh X.K G (b1||b2) (ze h1 h2) L H Q):V1 (Gh X.K G b1 h1) (Gh X.K G b2 h2) L H Q:=by
 obtain⟨Zq,A,B,q,f⟩:=h;obtain⟨⟨k,B1⟩,e1,f⟩:=f.bind;refine⟨Zq,A,B,q,?_⟩;rw[e1];intro H1 q1 x1 s1;cases k with
 |false=>
  refine⟨Zq,A,B1,q1,?_⟩;cases e2:h2 B1 with
  |ok y=>rw[e2] at f;exact λH2 q2 x2 s2=>f H2 q2 (x1.trans x2) (two s1 s2)
  |exc=>rw[e2] at f;exact f.elim
  |stk=>rw[e2] at f;exact f.elim
 |true=>
  exact f H1 q1 x1 λz=>s1 (Ĩ.mp z).1
def LG (ha:DT X G a b1 h1):DW X G (.BoolOp .And [a] pos) b1 h1:=⟨CK ha.un⟩
def g_ (ha:DT X G a b1 h1):DW X G (.BoolOp .Or [a] pos) b1 h1:=⟨Gv ha.un⟩
def P0 (ha:DT X G a b1 h1)(hb:DW X G (.BoolOp .And (b::rest) pos) b2 h2):DW X G (.BoolOp .And (a::b::rest) pos) (b1||b2) (LD h1 h2):=⟨(Gw ha.un hb.un).to λ_ _ _=>Hl⟩
def j6 (ha:DT X G a b1 h1)(hb:DW X G (.BoolOp .Or (b::rest) pos) b2 h2):DW X G (.BoolOp .Or (a::b::rest) pos) (b1||b2) (ze h1 h2):=⟨(Nh ha.un hb.un).to λ_ _ _=>LF⟩
theorem eK (ha:DT X G a b1 h1):DT X G (.UnaryOp .Not a pos) b1 (jq h1):=⟨(Gx ha.un).to λL H Q h=>by
 obtain⟨Zq,A,B,q,f⟩:=h;obtain⟨⟨k,B1⟩,e1,f⟩:=f.bind;refine⟨Zq,A,B,q,?_⟩;rw[e1];exact λH1 q1 x1 s1=>f H1 q1 x1 s1⟩
def kE (g1 g2:Ev->R (U×Ev)):Ev->R (U×Ev):=λB=>(gB g1 B).bind λx=>if x.1=M then g2 x.2 else .ok (.bl Y,x.2)
def Wl (g1 g2:Ev->R (U×Ev)):Ev->R (U×Ev):=λB=>(gB g1 B).bind λx=>if x.1=M then .ok (.bl M,x.2) else g2 x.2
def LH (g1:Ev->R (U×Ev)):Ev->R (U×Ev):=λB=>(gB g1 B).bind λx=>.ok (.bl (!x.1),x.2)
theorem Hm {g:Ev->R (U×Ev)}{B1:Ev}{k:Bool}(h:gB g B=.ok (k,B1)):g B=.ok (.bl k,B1):=by
 unfold gB at h;cases e:g B with
 |ok y=>
  obtain⟨u,B2⟩:=y;rw[e] at h;cases u<;>simp[R.bind] at h;obtain⟨rfl,rfl⟩:=h;rfl
 |exc=>rw[e] at h;simp[R.bind] at h
 |stk=>rw[e] at h;simp[R.bind] at h
theorem ic (hn:m2≠.P:=by decide)(ha:DE X G a b1 m1 g1)(hb:DE X G (.BoolOp .And (b::rest) pos) b2 m2 g2):DE X G (.BoolOp .And (a::b::rest) pos) (b1||b2) .S (kE g1 g2):=⟨(Pg ha.un hb.un).to λL H Q h=>by
 obtain⟨Zq,A,B,q,f⟩:=h;obtain⟨⟨k,B1⟩,e1,f⟩:=f.bind;refine⟨Zq,A,B,q,?_⟩;rw[Hm e1];intro v H1 q1 x1 s1 vm;refine⟨k,vm.pk.bl,?_⟩;cases k with
 |true=>
  refine⟨Zq,A,B1,q1,?_⟩;cases e2:g2 B1 with
  |ok y=>rw[e2] at f;exact λv2 H2 q2 x2 s2 yN=>f v2 H2 q2 (x1.trans x2) (two s1 s2) (yN.rp hn)
  |exc=>rw[e2] at f;exact f.elim
  |stk=>rw[e2] at f;exact f.elim
 |false=>
  exact f _ H1 q1 x1 (λz=>s1 (Ĩ.mp z).1) (rS.ofS fA)⟩
theorem Tt (hn:m2≠.P:=by decide)(ha:DE X G a b1 m1 g1)(hb:DE X G (.BoolOp .Or (b::rest) pos) b2 m2 g2):DE X G (.BoolOp .Or (a::b::rest) pos) (b1||b2) .S (Wl g1 g2):=⟨(SW ha.un hb.un).to λL H Q h=>by
 obtain⟨Zq,A,B,q,f⟩:=h;obtain⟨⟨k,B1⟩,e1,f⟩:=f.bind;refine⟨Zq,A,B,q,?_⟩;rw[Hm e1];intro v H1 q1 x1 s1 vm;refine⟨k,vm.pk.bl,?_⟩;cases k with
 |false=>
  refine⟨Zq,A,B1,q1,?_⟩;cases e2:g2 B1 with
  |ok y=>rw[e2] at f;exact λv2 H2 q2 x2 s2 yN=>f v2 H2 q2 (x1.trans x2) (two s1 s2) (yN.rp hn)
  |exc=>rw[e2] at f;exact f.elim
  |stk=>rw[e2] at f;exact f.elim
 |true=>
  exact f _ H1 q1 x1 (λz=>s1 (Ĩ.mp z).1) (rS.ofS fA)⟩
def i9 {op}(ha:DE X G a b1 m1 g1):DE X G (.BoolOp op [a] pos) b1 m1 g1:=⟨Pf ha.un⟩
theorem Hn (ha:DE X G a b1 m1 g1):DE X G (.UnaryOp .Not a pos) b1 .S (LH g1):=⟨(Ph ha.un).to λL H Q h=>by
 obtain⟨Zq,A,B,q,f⟩:=h;obtain⟨⟨k,B1⟩,e1,f⟩:=f.bind;refine⟨Zq,A,B,q,?_⟩;rw[Hm e1];exact λv H1 q1 x1 s1 vm=>⟨k,vm.pk.bl,f _ H1 q1 x1 s1 (rS.ofS fA)⟩⟩
def Wm (h:Ev->R (Bool×Ev))(g1 g2:Ev->R (U×Ev)):Ev->R (U×Ev):=λB=>(h B).bind λx=>if x.1=M then g1 x.2 else g2 x.2
theorem Ho (Zv:m1≠.P:=by decide)(M8:m2≠.P:=by decide)(hc:DT X G c b1 h1)(ha:DE X G a b2 m1 g1)(hb:DE X G b b3 m2 g2):DE X G (.IfExp c a b pos) (b1||(b2||b3)) .S (Wm h1 g1 g2):=⟨(yV hc.un ha.un hb.un).to λL H Q h=>by
 obtain⟨Zq,A,B,q,f⟩:=h;obtain⟨⟨k,B1⟩,e1,f⟩:=f.bind;refine⟨Zq,A,B,q,?_⟩;rw[e1];intro H1 q1 x1 s1;cases k with
 |true=>
  refine⟨Zq,A,B1,q1,?_⟩;cases e2:g1 B1 with
  |ok y=>rw[e2] at f;exact λv2 H2 q2 x2 s2 yN=>f v2 H2 q2 (x1.trans x2) (two s1 λz=>s2 (Ĩ.mp z).1) (yN.rp Zv)
  |exc=>rw[e2] at f;exact f.elim
  |stk=>rw[e2] at f;exact f.elim
 |false=>
  refine⟨Zq,A,B1,q1,?_⟩;cases e2:g2 B1 with
  |ok y=>rw[e2] at f;exact λv2 H2 q2 x2 s2 yN=>f v2 H2 q2 (x1.trans x2) (two s1 λz=>s2 (Ĩ.mp z).2) (yN.rp M8)
  |exc=>rw[e2] at f;exact f.elim
  |stk=>rw[e2] at f;exact f.elim⟩
def jG (p p':U->U->R U)(g1 g2 g3:Ev->R (U×Ev)):Ev->R (U×Ev):=λB=>(g1 B).bind λx=>(g2 x.2).bind λy=>(p x.1 y.1).bind λz=>match z with
 | .bl k=>if k=M then (g3 y.2).bind λw=>(p' y.1 w.1).bind λz'=>.ok (z',w.2) else .ok (.bl Y,y.2)
 |_=>.stk
theorem s_ {r:R2}(hp:ez X.K r .S p)(Bo:ez X.K r' .S p')(n1:m1≠.P)(n2:m2≠.P){Q:VK}(h:tD X.K G (b1||(b2||b3)) .S (jG p p' g1 g2 g3) L H Q) :
  Bv r r' (tD X.K G b1 m1 g1) (tD X.K G b2 m2 g2) (tD X.K G b3 m3 g3) L H Q:=by
 obtain⟨Zq,A,B,q,f⟩:=h;obtain⟨⟨u,B1⟩,e1,f⟩:=f.bind;obtain⟨⟨w,B2⟩,e2,f⟩:=f.bind;obtain⟨z,e3,f⟩:=f.bind;refine⟨Zq,A,B,q,?_⟩;rw[e1];intro v1 H1 q1 x1 s1 sJ;refine⟨Zq,A,B1,q1,?_⟩;rw[e2];intro v2 H2 q2 x2 s2 yN;refine hp A H2 v1 v2 u w z _ (sJ.laterS q1 x2 n1).pk yN.pk q2.mu e3 λv H3 sm vm=>?_;cases z with
 |bl k=>
  refine⟨k,(vm).pk.bl,?_⟩;have q3:=q2.same sm;cases k with
  |false=>
   exact f _ H3 q3 ((x1.trans x2).trans (eQ.same sm)) (λz=>by
    obtain⟨a,b⟩:=Ĩ.mp z;exact nQ (two s1 s2) sm (by rw[a,(Ĩ.mp b).1];rfl)) (rS.ofS fA)
  |true=>
   obtain⟨⟨w3,B3⟩,e4,f⟩:=f.bind;obtain⟨z',e5,f⟩:=f.bind;refine⟨Zq,A,B2,q3,?_⟩;rw[e4];intro v4 H4 q4 x4 s4 Zw;refine Bo A H4 v2 v4 w w3 z' Q ((yN.rp n2).same sm |>.re q3.mu x4 (λb z=>.inl z)).pk Zw.pk q4.mu e5 λv5 H5 Gp Zx=>?_;refine f v5 H5 (q4.same Gp) (((x1.trans x2).trans (eQ.same sm)).trans (x4.trans (eQ.same Gp))) ?_ (Zx.e q4 Gp);intro z;obtain⟨a,b⟩:=Ĩ.mp z;obtain⟨b,c⟩:=Ĩ.mp b;exact nQ (two (nQ (two s1 s2) sm) s4) Gp (by rw[a,b,c];rfl)
 |_=>exact f.elim
def zf {r:R2}(ho:iL X (ú op) r)(hp:ez X.K r .S p)(Cz:iL X (ú op') r')(Bo:ez X.K r' .S p')(ha:DE X G a b1 m1 g1)(hb:DE X G b b2 m2 g2)(hc:DE X G c b3 m3 g3)(n1:m1≠.P:=by decide)(n2:m2≠.P:=by decide)(hm:lastMarks [op,op'] [b,c]=Y:=by with_unfolding_all rfl):DE X G (.Compare a [op,op'] [b,c] pos) (b1||(b2||b3)) .S (jG p p' g1 g2 g3):=⟨(GF ho Cz ha.un hb.un hc.un hm).to λ_ _ _=>s_ hp Bo n1 n2⟩
def zg {r:R2}(ho:iL X (ú op) r)(hp:ez X.K r .S p)(Cz:iL X (ú op') r')(Bo:ez X.K r' .S p')(ha:DE X G a b1 m1 g1)(hb:DE X G b b2 m2 g2)(hc:DE X G c b3 m3 g3)(n1:m1≠.P:=by decide)(n2:m2≠.P:=by decide)(hm:lastMarks [op,op'] [b,c]=Y:=by with_unfolding_all rfl):DT X G (.Compare a [op,op'] [b,c] pos) (b1||(b2||b3)) (gB (jG p p' g1 g2 g3)):=⟨(GG ho Cz ha.un hb.un hc.un hm).to λ_ _ _ h=>s_ hp Bo n1 n2 (pG h)⟩
def Tu (p:U->R U)(g:Ev->R (U×Ev)):Ev->R (U×Ev):=λB=>(g B).bind λx=>(p x.1).bind λz=>.ok (z,x.2)
noncomputable def ao:Ev->R (List U×Ev):=λB=>.ok ([],B)
def ae (g:Ev->R (U×Ev))(ga:Ev->R (List U×Ev)):Ev->R (List U×Ev):=λB=>(g B).bind λx=>(ga x.2).bind λy=>.ok (x.1::y.1,y.2)
variable {ga:Ev->R (List U×Ev)}{p:Bool}
theorem ah:DA X G [] Y p ao:=⟨gm.to λL H Q ⟨Zq,A,B,q,f⟩=>f [] H q eQ.refl (λ_=>⟨rfl,aO.refl _⟩) (by unfold So;split;exact rfl;exact ba.nil)⟩
theorem aa (ha:DE X G e b1 m1 g1)(hr:DA X G es b2 p ga)(hm:m1=.P->(p=M/\b2=Y):=by first|exact λ_=>⟨rfl,rfl⟩|exact λh=>nomatch h)
  (hs:Ç (e::es) X.env=(Y,Ì e X.env)::Ç es X.env:=by rfl):DA X G (e::es) (b1||b2) p (ae g1 ga):=⟨(df ha.un hr.un hs).to λL H Q h=>by
 obtain⟨Zq,A,B,q,f⟩:=h;obtain⟨⟨u,B1⟩,e1,f⟩:=f.bind;obtain⟨⟨us,B2⟩,e2,f⟩:=f.bind;refine⟨Zq,A,B,q,?_⟩;rw[e1];intro v1 H1 q1 x1 s1 sJ;refine⟨Zq,A,B1,q1,?_⟩;rw[e2];intro vs H2 q2 x2 s2 yN;refine f _ H2 q2 (x1.trans x2) (two s1 s2) ?_;cases p with
 |true=>
  exact⟨v1,vs,rfl,sJ.later q1 x2 s2 (λz=>(hm z).2),yN⟩
 |false=>
  exact ba.cons (sJ.laterS q1 x2 λz=>ü (hm z).1) yN⟩
theorem So.pks (h:So K p A H us vs):KU K H A us vs:=by
 cases p with
 |true=>exact h
 |false=>exact h.pks
def So.rps (h:So K Y A H us vs):ba K H A us vs:=by
 exact h
def eD (ga:Ev->R (List U×Ev)):Ev->R (U×Ev):=λB=>(ga B).bind λx=>if x.1.length<=Â then .ok (.tup x.1,x.2) else .stk
def fZ (ga:Ev->R (List U×Ev)):Ev->R (U×Ev):=λB=>(ga B).bind λx=>if x.1.length<=Â then .ok (.lst x.1,x.2) else .stk
def cK {p:Õ}(h:H p=Z)(o:HO):aO H (cT H p o):=λb u q=>by rw[aL (cu q h)];exact q
def pH {a:Õ}(h:ba K H A us vs)(n:H a=Z)(l:us.length<=Â):Rp K (cT H a (.tup vs)) A (.tup us) (.ref a):=by
 exact⟨a,vs,rfl,aW,l,h.same (cK n _)⟩
theorem cQ {a:Õ}(m:∀b,A b->Mu (H b))(h:ba K H A us vs)(n:H a=Z)(l:us.length<=Â):nD K (cT H a (.lst vs)) (λb=>A b\/b=a) (.lst us) a:=
 ⟨vs,aW,l,h.re m (eQ.same (cK n _)) λb z=>by
  rcases z with z|z
  ·exact .inl z
  ·subst z;exact .inr n⟩
theorem fh {x1}(h:DA X G es b1 Y ga):DE X G (.Tuple es x1 pos) b1 .S (eD ga):=⟨(GK h.un).to λL H Q h=>by
 obtain⟨Zq,A,B,q,f⟩:=h;obtain⟨⟨us,B1⟩,e1,f⟩:=f.bind;refine⟨Zq,A,B,q,?_⟩;rw[e1];intro vs H1 q1 x1 s1 sJ;split at f
 ·rename_i l;refine⟨by rw[<-sJ.rps.length];exact l,λa n=>?_⟩;exact f _ _ (q1.same (cK n _)) (x1.trans (eQ.same (cK n _))) (nQ s1 (cK n _)) (rS.ofS (pH sJ.rps n l))
 ·exact f.elim⟩
theorem gp (h:DA X G es b1 Y ga):DE X G (.List es pos) b1 .O (fZ ga):=⟨(GL h.un).to λL H Q h=>by
 obtain⟨Zq,A,B,q,f⟩:=h;obtain⟨⟨us,B1⟩,e1,f⟩:=f.bind;refine⟨Zq,A,B,q,?_⟩;rw[e1];intro vs H1 q1 x1 s1 sJ;split at f
 ·rename_i l;refine⟨by rw[<-sJ.rps.length];exact l,λa n=>?_⟩;exact f _ _ (q1.same (cK n _)) (x1.trans (eQ.same (cK n _))) (nQ s1 (cK n _)) (Hk.e q1 (cK n _) ⟨a,rfl,n,cQ q1.mu sJ.rps n l⟩)
 ·exact f.elim⟩
def dq (p:List U->R U)(ga:Ev->R (List U×Ev)):Ev->R (U×Ev):=λB=>(ga B).bind λx=>(p x.1).bind λz=>.ok (z,x.2)
def mR (K:Ê)(r:List V->Hp->VK->Prop)(m:Md)(p:List U->R U):Prop:=∀A H vs us z Q,KU K H A us vs->(∀a,A a->Mu (H a))->p us=.ok z->(∀v H',aO H H'->Hk K m A H H' z v->Q v H')->r vs H Q
theorem rW {r:List V->Hp->VK->Prop}{f:List U->R U}(hp:mR X.K r mr f){Q:VK}(h:tD X.K G b1 mr (dq f ga) L H Q):PD r (Wj X.K G b1 p ga) L H Q:=by
 obtain⟨Zq,A,B,q,f⟩:=h;obtain⟨⟨us,B1⟩,e1,f⟩:=f.bind;obtain⟨z,e2,f⟩:=f.bind;refine⟨Zq,A,B,q,?_⟩;rw[e1];intro vs H1 q1 x1 s1 sJ;exact hp A H1 vs us z Q sJ.pks q1.mu e2 λv H' sm vm=>f v H' (q1.same sm) (x1.trans (eQ.same sm)) (nQ s1 sm) (vm.e q1 sm)
def aK {id:String}{p1:Pos}{r:List V->Hp->VK->Prop}{f:List U->R U}(hc:eh X (.builtin id) r)(hp:mR X.K r mr f)(hg:Gl X x)(hm:X.mg x=Z)(hv:þ x=J (.builtin id))(ha:DA X G (e::es) b1 M ga)(hn:x≠"__name__":=by decide)(vW:(x==("__debug__":Str))=Y:=by decide)
  (he:Ç (e::es) X.env=(Y,Ì e X.env)::Ç es X.env:=by rfl) (jh:(ã pos (Ç es X.env)).any (·.1)=Y:=by rfl):DE X G (.Call (.Name x p1) (e::es) [] pos) b1 mr (dq f ga):=⟨(jk hc hg hm hv ha.un hn vW he jh).to λ_ _ _=>rW hp⟩
def cD {T:String}{p1:Pos}{r:List V->Hp->VK->Prop}{f:List U->R U}(hc:eh X (.type T) r)(hp:mR X.K r mr f)(hg:Gl X x)(hm:X.mg x=Z)(hv:þ x=J (.type T))(ha:DA X G (e::es) b1 M ga)(hn:x≠"__name__":=by decide)(vW:(x==("__debug__":Str))=Y:=by decide)
  (he:Ç (e::es) X.env=(Y,Ì e X.env)::Ç es X.env:=by rfl) (jh:(ã pos (Ç es X.env)).any (·.1)=Y:=by rfl):DE X G (.Call (.Name x p1) (e::es) [] pos) b1 mr (dq f ga):=⟨(eP hc hg hm hv ha.un hn vW he jh).to λ_ _ _=>rW hp⟩
end
end L2
namespace L2
section
variable {G:Gm}{A':Õ->Prop}{B':Ev}{b p:Bool}{m:Md}{α:Type}
theorem nD.mono (n:∀b,A' b->A b)(h:nD K H A u a):nD K H A' u a:=by
 cases u<;>(unfold nD at h |-)
 case lst us=>obtain⟨xs,q,l,z⟩:=h;exact⟨xs,q,l,z.mono n⟩
 case dct ks us=>obtain⟨xs,q,l,z⟩:=h;exact⟨xs,q,l,z.mono n⟩
 all_goals exact h.elim
theorem d5 {α:Type}{l:List (Option α)}{x:Option α}{y:α}(h:(l.set i x)[j]? = J (J y)):(i=j/\x=J y)\/(i≠j/\l[j]? = J (J y)):=by
 by_cases e:i=j
 ·subst e;rw[List.getElem?_set_self'] at h;refine .inl ⟨rfl,?_⟩;cases q:l[i]? with
  |none=>rw[q] at h;cases h
  |some w=>rw[q] at h;exact ó h
 ·rw[Ě e] at h;exact .inr ⟨e,h⟩
theorem rX {α:Type}{l l':List (Option α)}{x:α}{β:Type}{k:List (Option β)}{y:Option β}{z:β}(hl:k.length=l.length)(h:(k.set i y)[i]? = J (J z)):(l.set i (J x))[i]? = J (J x):=by
 have:i<l.length:=by
  have:=(ċ.mp h).1;rw[ł] at this;simp_all
 rw[Ϟ this]
theorem c_.set (r:c_ K G Zq A B L H)(c:G.is i=Y)(h:Rp K H A u v):c_ K G Zq A (B.set i (J u)) (L.set i (J v)) H where
 slot:=λj w hj=>by
  rcases d5 hj with⟨rfl,e⟩|⟨ne,e⟩
  ·cases e;refine⟨v,rX (l':=L) r.len hj,?_⟩;rw[hU (by rw[c];exact ü)];exact h
  ·rw[Ě ne];exact r.slot j w e
 dis:=λj k w w' a cj ck ne hj hk sj sk=>by
  rcases d5 hj with⟨rfl,_⟩|⟨n1,e1⟩
  ·lia
  ·rcases d5 hk with⟨rfl,_⟩|⟨n2,e2⟩
   ·lia
   ·rw[Ě n1] at sj;rw[Ě n2] at sk;exact r.dis j k w w' a cj ck ne e1 e2 sj sk
 mu:=r.mu
 sup:=r.sup
 out:=r.out
 bas:=r.bas
 io0:=λh0=>by
  obtain⟨a,b⟩:=r.io0 h0;refine⟨?_,b⟩;have:i≠0:=λz=>by subst z;rw[b] at c;cases c
  rw[Ě this];exact a
 len:=by rw[ł,ł];exact r.len
theorem c_.drop (r:c_ K G Zq A B L H)(i:Nat):c_ K G Zq A (B.set i Z) L H where
 slot:=λj w hj=>by
  rcases d5 hj with⟨rfl,e⟩|⟨ne,e⟩
  ·cases e
  ·exact r.slot j w e
 dis:=λj k w w' a cj ck ne hj hk sj sk=>by
  rcases d5 hj with⟨rfl,e⟩|⟨n1,e1⟩
  ·cases e
  ·rcases d5 hk with⟨rfl,e⟩|⟨n2,e2⟩
   ·cases e
   ·exact r.dis j k w w' a cj ck ne e1 e2 sj sk
 mu:=r.mu
 sup:=r.sup
 out:=r.out
 bas:=r.bas
 io0:=r.io0
 len:=by rw[ł];exact r.len
theorem c_.setO (r:c_ K G Zq A B L H)(c:G.is i=M)(hi:G.io=M->i≠0)(na:¬A a)(nb:Zq.B a=Z)(r':c_ K G Zq (λb=>A b\/b=a) B L H)(h:nD K H (λb=>A b\/b=a) u a) :
  c_ K G Zq (λb=>A b\/b=a) (B.set i (J u)) (L.set i (J (.ref a))) H where
 slot:=λj w hj=>by
  rcases d5 hj with⟨rfl,e⟩|⟨ne,e⟩
  ·cases e;refine⟨.ref a,rX (l':=L) r.len hj,?_⟩;rw[hV c];exact⟨a,rfl,.inr rfl,nb,.inl λz=>na (r.sup a z),h⟩
  ·rw[Ě ne];exact r'.slot j w e
 dis:=λj k w w' b cj ck ne hj hk sj sk=>by
  have key:∀k w',G.is k=M->i≠k->B[k]? = J (J w')->L[k]? ≠ J (J (.ref a)):=λk w' ck _ e q=>by
   obtain⟨b,h1,h2,_⟩:=r.own ck e;lia
  rcases d5 hj with⟨rfl,e1⟩|⟨n1,e1⟩
  ·rcases d5 hk with⟨rfl,_⟩|⟨n2,e2⟩
   ·exact ne rfl
   ·rw[rX (l':=L) r.len hj] at sj;cases sj;rw[Ě n2] at sk;exact key k w' ck n2 e2 sk
  ·rcases d5 hk with⟨rfl,e2⟩|⟨n2,e2⟩
   ·rw[rX (l':=L) r.len hk] at sk;cases sk;rw[Ě n1] at sj;exact key j w cj n1 e1 sj
   ·rw[Ě n1] at sj;rw[Ě n2] at sk;exact r.dis j k w w' b cj ck ne e1 e2 sj sk
 mu:=r'.mu
 sup:=r'.sup
 out:=r'.out
 bas:=r'.bas
 io0:=λh0=>by
  obtain⟨a,b⟩:=r.io0 h0;exact⟨by rw[Ě (hi h0)];exact a,b⟩
 len:=by rw[ł,ł];exact r.len
theorem c_.free (r:c_ K G Zq A B L H)(c:G.is i=M)(hi:G.io=M->i≠0)(h:B[i]? = J (J u)):∃a A',L[i]? = J (J (.ref a))/\c_ K G Zq A' (B.set i Z) L H/\Rp K H A' u (.ref a):=by
 obtain⟨a,h1,h2,h3,h4,h5⟩:=r.own c h;have na:¬Zq.A0 a:=by
  rcases h4 with h4|⟨h4,h6⟩
  ·exact h4
  ·exact absurd h6 (hi h4)
 have sub:∀b,(A b/\b≠a)->A b:=λb z=>z.1;refine⟨a,λb=>A b/\b≠a,h1,?_,h5.rp sub λz=>z.2 rfl⟩;exact {
  slot:=λj w hj=>by
   rcases d5 hj with⟨rfl,e⟩|⟨ne,e⟩
   ·cases e
   ·obtain⟨v,s1,s2⟩:=r.slot j w e;refine⟨v,s1,?_⟩;by_cases cj:G.is j=M
    ·rw[hV cj] at s2 |-;obtain⟨b,e1,e2,e3,e4,e5⟩:=s2;refine⟨b,e1,⟨e2,λz=>?_⟩,e3,e4,e5.mono sub⟩;subst z e1;exact r.dis i j u w b c cj ne h e h1 s1
    ·rw[hU cj] at s2 |-;exact s2.mono sub
  dis:=(r.drop i).dis
  mu:=λb z=>r.mu b z.1
  sup:=λb z=>⟨r.sup b z,λe=>na (e▸z)⟩
  out:=λb z=>r.out b z.1
  bas:=r.bas
  io0:=r.io0
  len:=by rw[ł];exact r.len}
theorem c_.put (r:c_ K G Zq A B L H){w:U}(c:G.is i=M)(h:B[i]? = J (J u))(ha:L[i]? = J (J (.ref a)))(e:∀b o,b≠a->H b=J o->H' b=J o)(t:nD K H' A w a) :
  c_ K G Zq A (B.set i (J w)) L H':=by
 obtain⟨a',h1,h2,h3,h4,h5⟩:=r.own c h;rw[ha] at h1;cases h1;have x:eQ A H H':=λb o nb z=>e b o (λq=>nb (q▸h2)) z;exact {
  slot:=λj y hj=>by
   rcases d5 hj with⟨rfl,q⟩|⟨ne,q⟩
   ·cases q;refine⟨.ref a,ha,?_⟩;rw[hV c];exact⟨a,rfl,h2,h3,h4,t⟩
   ·obtain⟨v,s1,s2⟩:=r.slot j y q;refine⟨v,s1,?_⟩;by_cases cj:G.is j=M
    ·rw[hV cj] at s2 |-;obtain⟨b,e1,e2,e3,e4,e5⟩:=s2;refine⟨b,e1,e2,e3,e4,e5.re r.mu x (λb z=>.inl z) λo z=>e b o (λq'=>?_) z⟩;subst q' e1;exact r.dis i j u y b c cj ne h q ha s1
    ·rw[hU cj] at s2 |-;exact s2.re r.mu x λb z=>.inl z
  dis:=λj k y y' b cj ck ne hj hk sj sk=>by
   have f:∀j y,(B.set i (J w))[j]? = J (J y)->∃y',B[j]? = J (J y'):=λj y hj=>by
    rcases d5 hj with⟨rfl,q⟩|⟨ne,q⟩
    ·exact⟨u,h⟩
    ·exact⟨y,q⟩
   obtain⟨y1,hj⟩:=f j y hj;obtain⟨y2,hk⟩:=f k y' hk;exact r.dis j k y1 y2 b cj ck ne hj hk sj sk
  mu:=λb z=>by
   by_cases q:b=a
   ·subst q;exact t.mu
   ·have m:=r.mu b z;obtain⟨o,z⟩:=m.ex;rw[e b o q z,<-z];exact m
  sup:=r.sup
  out:=r.out
  bas:=λb o z=>e b o (λq=>by lia) (r.bas b o z)
  io0:=r.io0
  len:=by rw[ł];exact r.len}
end
def E2 (K:Ê)(m:Md)(A:G->Prop)(H:Hp):R U->VK->Prop
 | .ok u,Q=>∀v H',aO H H'->Hk K m A H H' u v->Q v H'
 |_,_=>False
noncomputable def tj {α:Type}(n:Nat)(g:List U->R α)(us:List U):R α:=if us.length=n then g us else .stk
def ji (K:Ê)(n:Nat)(f:List U->R U)(m:Md):Sp:=λvs H Q _=>∃us A,ba K H A us vs/\(∀a,A a->Mu (H a))/\E2 K m A H (tj n f us) Q
def Hq (K:Ê)(n:Nat)(f:List U->R (U×U)):Sp:=λvs H Q _=>∃u0 us a0 vs' A,vs=.ref a0::vs'/\A a0/\nD K H A u0 a0/\ba K H A us vs'/\(∀a,A a->Mu (H a))/\match tj n f (u0::us) with
 | .ok (u,w)=>∀v H',(∀b o,b≠a0->H b=J o->H' b=J o)->nD K H' A w a0->Rp K H' A u v->Q v H'
 |_=>False
section
variable {G:Gm}{e a b:É}{rest:List É}{p1:Pos}{b1 b2 b3:Bool}{m1 m2 m3 mr:Md}{g1 g2 g3:Ev->R (U×Ev)}{h1 h2:Ev->R (Bool×Ev)}{ga:Ev->R (List U×Ev)}
def dz (n:Nat)(f:List U->R U)(ga:Ev->R (List U×Ev)):Ev->R (U×Ev):=λB=>(ga B).bind λx=>(tj n f x.1).bind λz=>.ok (z,x.2)
theorem av {n:Nat}{f:List U->R U}(F:Fn X.prog X.w X.K X.mg X.base x k ps (ji X.K n f mr))(hr:cI k X.A)(ha:DA X G (e::es) b1 Y ga)(hg:Gl X x:=by rfl)(vW:(x==("__debug__":Str))=Y:=by decide)
  (he:Ç (e::es) X.env=(Y,Ì e X.env)::Ç es X.env:=by rfl) (jh:(ã pos (Ç es X.env)).any (·.1)=Y:=by rfl):DE X G (.Call (.Name x p1) (e::es) [] pos) b1 mr (dz n f ga):=⟨(sY F hr ha.un hg vW he jh).to λL H Q h=>by
 obtain⟨Zq,A,B,q,f⟩:=h;obtain⟨⟨us,B1⟩,e1,f⟩:=f.bind;obtain⟨z,e2,f⟩:=f.bind;refine⟨Zq,A,B,q,?_⟩;rw[e1];intro vs H1 q1 x1 s1 sJ;rw[ā];refine⟨us,A,sJ.rps,q1.mu,?_⟩;rw[e2];exact λv H' sm vm=>f v H' (q1.same sm) (x1.trans (eQ.same sm)) (nQ s1 sm) (vm.e q1 sm)⟩
noncomputable def live (B:Ev)(i:Nat):Bool:=match B[i]? with
 |some (J _)=>M
 |_=>Y
theorem xD (h:live B i=M):∃u,B[i]? = J (J u):=by
 unfold live at h;split at h
 ·rename_i u hu;exact⟨u,hu⟩
 ·cases h
def jr (n i:Nat)(f:List U->R (U×U))(ga:Ev->R (List U×Ev)):Ev->R (U×Ev):=λB=>if live B i=M then (ga B).bind λx=>match x.2[i]? with
 |some (J u0)=>(tj n f (u0::x.1)).bind λz=>.ok (z.1,x.2.set i (J z.2))
 |_=>.stk
 else .stk
theorem aT {n:Nat}{f:List U->R (U×U)}(F:Fn X.prog X.w X.K X.mg X.base x k ps (Hq X.K n f))(hr:cI k X.A)(ha:DA X G es b1 Y ga)(hN:X.N[i]? = J y:=by rfl)(hv:EK X.env.scope y:=by first|exact Or.inl rfl|exact Or.inr (Or.inl rfl)|exact Or.inr (Or.inr rfl))(c:G.is i=M:=by rfl)(hd:(y==("__debug__":Str))=Y:=by decide)(iQ:(y==("__classdict__":Str))=Y:=by decide)(hs:Ç (.Name y p2::es) X.env=(Y,Ì (.Name y p2) X.env)::Ç es X.env:=by rfl)(hg:Gl X x:=by rfl)(vW:(x==("__debug__":Str))=Y:=by decide)(jh:(ã pos (Ç es X.env)).any (·.1)=Y:=by rfl):DE X G (.Call (.Name x p1) (.Name y p2::es) [] pos) M .S (jr n i f ga):=⟨(sY F hr (df (i5 hN hv hd iQ) ha.un hs) hg vW hs jh).to λL H Q h=>by
 obtain⟨Zq,A,B,q,f⟩:=h;unfold jr at f;split at f
 ·rename_i hl;obtain⟨u00,hu0⟩:=xD hl;obtain⟨a0,h0,_⟩:=q.own c hu0;obtain⟨⟨us,B1⟩,e1,f⟩:=f.bind;split at f
  ·rename_i u0 hu;obtain⟨⟨z,w⟩,e2,f⟩:=f.bind;refine⟨.ref a0,h0,Zq,A,B,q,?_⟩;rw[e1];intro vs H1 q1 x1 s1 sJ;obtain⟨a0',k1,k2,_,_,k3⟩:=q1.own c hu;rw[h0] at k1;cases k1;rw[ā];refine⟨u0,us,a0,vs,A,rfl,k2,k3,sJ.rps,q1.mu,?_⟩;rw[e2];intro v H' em tp rp;exact f v H' (q1.put c hu h0 em tp) (x1.trans λb o nb z=>em b o (λy=>nb (y▸k2)) z) (λz=>nomatch z) rp
  ·exact f.elim
 ·exact f.elim⟩
def Hr (K:Ê)(T:String)(r:V->List V->Hp->VK->Prop)(p:U->List U->R (U×U)):Prop:=∀A H a u vs us z w Q,nD K H A u a->A a->ba K H A us vs->(∀a,A a->Mu (H a))->p u us=.ok (z,w)->
 (∀v H',(∀b o,b≠a->H b=J o->H' b=J o)->nD K H' A w a->Rp K H' A z v->Q v H')->r (.ref a) vs H Q
noncomputable def E3:U->String->Bool
 | .lst _,T=>T=="list"
 |_,_=>Y
theorem P2 {a:Õ}{T:String}(h:nD K H A u a)(t:E3 u T=M):Vt K T (.ref a) H:=by
 cases u<;>(unfold E3 at t)
 case lst us=>
  obtain⟨xs,q,_⟩:=h;exact .inl ⟨by simpa using t,xs,.inl (.inl q)⟩
 all_goals cases t
def gM (T:String)(i:Nat)(p:U->List U->R (U×U))(ga:Ev->R (List U×Ev)):Ev->R (U×Ev):=λB=>match B[i]? with
 |some (J u1)=>if E3 u1 T=M then (ga B).bind λx=>match x.2[i]? with
  |some (J u0)=>(p u0 x.1).bind λz=>.ok (z.1,x.2.set i (J z.2))
  |_=>.stk
  else .stk
 |_=>.stk
theorem Hs {T:String}{r:V->List V->Hp->VK->Prop}{p:U->List U->R (U×U)}(hp:Hr X.K T r p)(c:G.is i=M){Q:VK}(h:tD X.K G M .S (gM T i p ga) L H Q) :
  Te X.K T r (mO i) (Wj X.K G b1 Y ga) L H Q:=by
 obtain⟨Zq,A,B,q,f⟩:=h;unfold gM at f;split at f
 ·rename_i u1 yR;split at f
  ·rename_i ht;obtain⟨a0,h0,_,_,_,t0⟩:=q.own c yR;obtain⟨⟨us,B1⟩,e1,f⟩:=f.bind;split at f
   ·rename_i u0 hu;obtain⟨⟨z,w⟩,e2,f⟩:=f.bind;refine⟨.ref a0,h0,P2 t0 ht,Zq,A,B,q,?_⟩;rw[e1];intro vs H1 q1 x1 s1 sJ;obtain⟨a0',k1,k2,_,_,k3⟩:=q1.own c hu;rw[h0] at k1;cases k1;exact hp A H1 a0 u0 vs us z w Q k3 k2 sJ.rps q1.mu e2 λv H' em tp rp=>f v H' (q1.put c hu h0 em tp) (x1.trans λb o nb z=>em b o (λy=>nb (y▸k2)) z) (λz=>nomatch z) rp
   ·exact f.elim
  ·exact f.elim
 ·exact f.elim
def pJ {T id:String}{name:Str}{cO:Pos}{r:V->List V->Hp->VK->Prop}{p:U->List U->R (U×U)}(pa:PlainAttrs T)(slot:Slot T name id)(Xk:typeOf (.builtin id)=pure (.type "method_descriptor"))(hm:KR X id r)(hp:Hr X.K T r p)(ha:DA X G (e::es) b1 Y ga)(hN:X.N[i]? = J y:=by rfl)(hv:EK X.env.scope y:=by first|exact Or.inl rfl|exact Or.inr (Or.inl rfl)|exact Or.inr (Or.inr rfl))(c:G.is i=M:=by rfl)(hd:(y==("__debug__":Str))=Y:=by decide)(iQ:(y==("__classdict__":Str))=Y:=by decide)(lB:Ķ (.Name y p2) name X.env (Ì (.Name y p2) X.env)=Ì (.Name y p2) X.env:=by rfl)(yM:((ã pos (Ç (e::es) X.env)).all (λx=> !x.1)&&(ĥ pos (ģ [] X.env)).all (λx=>x.1.isSome)
   && decide ((e::es).length+([]:List Ċ).length+(if ([]:List Ċ).isEmpty then 0 else 1)<30))=M:=by rfl)(lC:(cO.endLine==pos.line)=M:=by rfl)(hs:Ç (e::es) X.env=(Y,Ì e X.env)::Ç es X.env:=by rfl)(vj:(ã pos (Ç es X.env)).any (·.1)=Y:=by rfl) :
  DE X G (.Call (.Attribute (.Name y p2) name cO) (e::es) [] pos) M .S (gM T i p ga):=⟨(GY pa slot Xk hm (i5 hN hv hd iQ) ha.un lB yM lC hs vj).to λ_ _ _=>Hs hp c⟩
def Ht (K:Ê)(r:V->Option Int->Option Int->Hp->VK->Prop)(m:Md)(p:U->Option Int->Option Int->R U):Prop:=∀A H x u lo hi z Q,Pk K H A u x->(∀a,A a->Mu (H a))->p u lo hi=.ok z->(∀v H',aO H H'->Hk K m A H H' z v->Q v H')->r x lo hi H Q
def Wn (K:Ê)(G:Gm)(Zq:Pkg)(A:Õ->Prop)(b:Bool)(B:Ev)(L:St)(H:Hp):R (Option Int×Ev)->(Option Int->Hp->Prop)->Prop
 | .ok (c,B'),Q=>∀H',c_ K G Zq A B' L H'->eQ A H H'->(b=Y->B'=B/\aO H H')->Q c H'
 |_,_=>False
def Y1 (K:Ê)(G:Gm)(b:Bool)(g:Ev->R (Option Int×Ev)):TO:=λL H Q=>∃Zq A B,c_ K G Zq A B L H/\Wn K G Zq A b B L H (g B) Q
structure DO (X:Cx)(G:Gm)(e:Option É)(b:Bool)(g:Ev->R (Option Int×Ev)):Prop where
 un:PO X e (Y1 X.K G b g)
noncomputable def dw:Ev->R (Option Int×Ev):=λB=>.ok (Z,B)
def cV (g:Ev->R (U×Ev)):Ev->R (Option Int×Ev):=λB=>(g B).bind λx=>match x.1 with
 | .int i=>.ok (J i,x.2)
 |_=>.stk
def PO.to {e:Option É}{t t':TO}(h:PO X e t)(i:∀L H Q,t' L H Q->t L H Q):PO X e t':=λpins s L H Q I q=>h pins s L H Q I (i _ _ _ q)
def fS:DO X G Z Y dw:=⟨Ln.to λL H Q ⟨Zq,A,B,q,f⟩=>f H q eQ.refl λ_=>⟨rfl,aO.refl _⟩⟩
theorem eJ (h:DE X G e b1 m1 g1):DO X G (J e) b1 (cV g1):=⟨(Lo h.un).to λL H Q h00=>by
 obtain⟨Zq,A,B,q,f⟩:=h00;refine⟨Zq,A,B,q,?_⟩;unfold cV at f;cases e1:g1 B with
 |stk=>rw[e1] at f;exact f.elim
 |exc=>rw[e1] at f;exact f.elim
 |ok x=>
  obtain⟨u,B1⟩:=x;rw[e1] at f;intro v H1 q1 x1 s1 vm;cases u with
  |int c=>exact⟨c,vm.pk.int,f H1 q1 x1 s1⟩
  |_=>exact f.elim⟩
def qm (p:U->Option Int->Option Int->R U)(g:Ev->R (U×Ev))(lo hi:Ev->R (Option Int×Ev)):Ev->R (U×Ev):=λB=>(g B).bind λx=>(lo x.2).bind λl=>(hi l.2).bind λh=>(p x.1 l.1 h.1).bind λz=>.ok (z,h.2)
theorem dN {r:V->Option Int->Option Int->Hp->VK->Prop}{p:U->Option Int->Option Int->R U}{lo hi:Option É}{gl gh:Ev->R (Option Int×Ev)}(hr:GU X r)(hp:Ht X.K r mr p)(he:DE X G e b1 m1 g1)(hl:DO X G lo b2 gl)(hu:DO X G hi b3 gh)(hm:m1=.P->(b2||b3)=Y:=by first|exact λ_=>rfl|exact λh=>nomatch h):DE X G (.Subscript e (.Slice lo hi Z p2) pos) (b1||(b2||b3)) mr (qm p g1 gl gh):=⟨(GV hr he.un hl.un hu.un).to λL H Q h=>by
 obtain⟨Zq,A,B,q,f⟩:=h;obtain⟨⟨u,B1⟩,e1,f⟩:=f.bind;obtain⟨⟨l,B2⟩,e2,f⟩:=f.bind;obtain⟨⟨h,B3⟩,e3,f⟩:=f.bind;obtain⟨z,e4,f⟩:=f.bind;refine⟨Zq,A,B,q,?_⟩;rw[e1];intro v1 H1 q1 x1 s1 sJ;refine⟨Zq,A,B1,q1,?_⟩;rw[e2];intro H2 q2 x2 s2;refine⟨Zq,A,B2,q2,?_⟩;rw[e3];intro H3 q3 x3 s3;exact hp A H3 v1 u l h z Q (sJ.later q1 (x2.trans x3) (two s2 s3) hm) q3.mu e4 λv H' sm vm=>f v H' (q3.same sm) ((x1.trans (x2.trans x3)).trans (eQ.same sm)) (nQ (two s1 (two s2 s3)) sm) (vm.e q3 sm)⟩
end
end L2
namespace L2
def Wo (K:Ê)(G:Gm)(sg:U->Ev->R Ev):TG:=λv L H Q=>∃Zq A B u,c_ K G Zq A B L H/\Rp K H A u v/\match sg u B with
 | .ok B'=>∀L',c_ K G Zq A B' L' H->(∀i,G.is i=M->L'[i]? = L[i]?)->Q L' H
 |_=>False
structure DG (X:Cx)(G:Gm)(tg:É)(sg:U->Ev->R Ev):Prop where
 un:PG X tg (Wo X.K G sg)
def Wq (K:Ê)(G:Gm)(sg:List U->Ev->R Ev):K_:=λvs L H Q=>∃Zq A B us,c_ K G Zq A B L H/\ba K H A us vs/\match sg us B with
 | .ok B'=>∀L',c_ K G Zq A B' L' H->(∀i,G.is i=M->L'[i]? = L[i]?)->Q L' H
 |_=>False
structure Vw (X:Cx)(G:Gm)(tgs:List É)(sg:List U->Ev->R Ev):Prop where
 un:Nj X tgs (Wq X.K G sg)
noncomputable def cx (i:Nat):U->Ev->R Ev:=λu B=>.ok (B.set i (J u))
noncomputable def wu:List U->Ev->R Ev:=λus B=>match us with
 | []=>.ok B
 |_=>.stk
def gr (s:U->Ev->R Ev)(t:List U->Ev->R Ev):List U->Ev->R Ev:=λus B=>match us with
 |u::r=>(s u B).bind λB1=>t r B1
 |_=>.stk
noncomputable def tm (n:Nat)(t:List U->Ev->R Ev):U->Ev->R Ev:=λu B=>match u with
 | .tup us=>if us.length=n then t us B else .stk
 |_=>.stk
section
variable {G:Gm}
def Nj.to {t t':K_}(h:Nj X es t)(i:∀v L H Q,t' v L H Q->t v L H Q):Nj X es t':=λpins s L H v u Q I r q=>h pins s L H v u Q I r (i _ _ _ _ q)
theorem aQ (hN:X.N.Nodup)(hi:X.N[i]? = J x:=by rfl)(hx:CI X.env.scope x:=by first|exact Or.inl rfl|exact Or.inr rfl)(c:G.is i=Y:=by rfl)(hf:X.fn x=M\/X.env.scope.names.lookup x=J .local:=by first|exact .inl rfl|exact .inr rfl|assumption):DG X G (.Name x pos) (cx i):=⟨(La hN hi hx hf).to λv L H Q ⟨Zq,A,B,u,q,r,f⟩=>f _ (q.set c r) λj cj=>by
  have:i≠j:=λz=>by subst z;rw[c] at cj;cases cj
  rw[Ě this]⟩
theorem CZ:Vw X G [] wu:=⟨Lb.to λvs L H Q h00=>by
 obtain⟨Zq,A,B,us,q,r,f⟩:=h00;cases us with
 |nil=>exact⟨r,f L q λ_ _=>rfl⟩
 |cons=>exact f.elim⟩
theorem nR {e:É}{s:U->Ev->R Ev}{t:List U->Ev->R Ev}(h1:DG X G e s)(h2:Vw X G es t)(hs:(ķ (e::es) X.env).map (·.2)=assign e X.env::(ķ es X.env).map (·.2):=by rfl):Vw X G (e::es) (gr s t):=⟨(Gy h1.un h2.un hs).to λvs L H Q h00=>by
 obtain⟨Zq,A,B,us,q,r,f⟩:=h00;unfold gr at f;cases us with
 |nil=>exact f.elim
 |cons u us=>
  obtain⟨v,vr,rfl,r1,r2⟩:=r;dsimp only at f;refine⟨v,vr,rfl,Zq,A,B,u,q,r1,?_⟩;cases e1:s u B with
  |ok B1=>
   rw[e1] at f;simp only[R.bind] at f;intro L1 q1 o1;refine⟨Zq,A,B1,us,q1,r2,?_⟩;cases e2:t us B1 with
   |ok B2=>rw[e2] at f;exact λL2 q2 o2=>f L2 q2 λi c=>(o2 i c).trans (o1 i c)
   |exc=>rw[e2] at f;exact f.elim
   |stk=>rw[e2] at f;exact f.elim
  |exc=>rw[e1] at f;exact f.elim
  |stk=>rw[e1] at f;exact f.elim⟩
theorem Hu {t:List U->Ev->R Ev}{n:Nat}(hc:X.calm=M)(h:Vw X G es t)(hn:(ķ es X.env).length=n:=by rfl)(gE:(ķ es X.env).findIdx? (·.1)=Z:=by rfl):DG X G (.Tuple es k pos) (tm n t):=⟨(Pl hc h.un hn gE).to λv L H Q h00=>by
 obtain⟨Zq,A,B,u,q,r,f⟩:=h00;unfold tm at f;cases u with
 |tup us=>
  obtain⟨a,xs,rfl,sq,l,rs⟩:=r;dsimp only at f;by_cases hl:us.length=n
  ·rw[hV hl] at f;exact⟨a,xs,rfl,fE.of sq,by rw[<-rs.length];exact hl,Zq,A,B,us,q,rs,f⟩
  ·rw[hU hl] at f;exact f.elim
 |_=>exact f.elim⟩
end
def Y2 (K:Ê)(Zq:Pkg)(m:Md)(H:Hp)(u:U)(v:V):Prop:=match m with
 | .S=>Rp K H Zq.A0 u v
 | .O=>∃a,v=.ref a/\Zq.B a=Z/\¬Zq.A0 a/\nD K H (λb=>Zq.A0 b\/b=a) u a
 | .P=>False
def tq (K:Ê)(G:Gm)(Zq:Pkg)(m:Md):SR->mN->Prop
 | .nx B',D=>∀A' L' H',c_ K G Zq A' B' L' H'->D.nx L' H'
 | .bk B',D=>∀A' L' H',c_ K G Zq A' B' L' H'->D.bk L' H'
 | .ct B',D=>∀A' L' H',c_ K G Zq A' B' L' H'->D.ct L' H'
 | .rt u B',D=>∀A' L' H' v,c_ K G Zq A' B' L' H'->Y2 K Zq m H' u v->D.rt v H'
 | .exc _ _,_=>∀H',(∀a o,Zq.B a=J o->H' a=J o)->G.W H'
 | .stk,_=>False
def Vx (K:Ê)(G:Gm)(m:Md)(g:Ev->SR):TS:=λD L H=>∃Zq A B,c_ K G Zq A B L H/\tq K G Zq m (g B) D
structure DS (X:Cx)(G:Gm)(m:Md)(st:Ô)(g:Ev->SR):Prop where
 un:PS X st (Vx X.K G m g)
structure BJ (X:Cx)(G:Gm)(m:Md)(st:List Ô)(g:Ev->SR):Prop where
 un:vy X st (Vx X.K G m g)
noncomputable def bg:Ev->SR:=.nx
noncomputable def aG (g1 g2:Ev->SR):Ev->SR:=λB=>match g1 B with
 | .nx B'=>g2 B'
 |r=>r
noncomputable def SR.of {α:Type}:R α->(α->SR)->SR
 | .ok a,f=>f a
 |_,_=>.stk
section
variable {G:Gm}{m:Md}{α:Type}
theorem tq.of {x:R α}{k:α->SR}{D:mN}(f:tq K G Zq m (SR.of x k) D):∃a,x=.ok a/\tq K G Zq m (k a) D:=by
 cases x with
 |ok a=>exact⟨a,rfl,f⟩
 |exc=>exact f.elim
 |stk=>exact f.elim
end
section
variable {G:Gm}{e a b:É}{YD rest:List Ô}{p1:Pos}{b1 b2 b3:Bool}{m m1 m2 m3 mr:Md}{g1 g2 g3:Ev->R (U×Ev)}{h1 h2:Ev->R (Bool×Ev)}{ga:Ev->R (List U×Ev)}{s1 s2:Ev->SR}
def aJ:BJ X G m [] bg:=⟨CL.to λD L H ⟨Zq,A,B,q,f⟩=>f A L H q⟩
def aq (h:DS X G m st s1):BJ X G m [st] s1:=⟨K8 h.un⟩
theorem ai (ha:DS X G m st s1)(hb:BJ X G m rest s2):BJ X G m (st::rest) (aG s1 s2):=⟨(yW ha.un hb.un).to λD L H h00=>by
 obtain⟨Zq,A,B,q,f⟩:=h00;refine⟨Zq,A,B,q,?_⟩;unfold aG at f;cases e:s1 B with
 |nx B1=>rw[e] at f;exact λA1 L1 H1 q1=>⟨Zq,A1,B1,q1,f⟩
 |rt=>rw[e] at f;exact f
 |bk=>rw[e] at f;exact f
 |ct=>rw[e] at f;exact f
 |exc=>rw[e] at f;exact f
 |stk=>rw[e] at f;exact f⟩
def j7 (g:Ev->R (U×Ev)):Ev->SR:=λB=>SR.of (g B) λx=>.nx x.2
theorem nU (h:DE X G e b1 m1 g1)(hs:Ĭ e Z pos.line X.env=pure Y:=by rfl):DS X G m (.Expr e pos) (j7 g1):=⟨(CM h.un hs).to λD L H h00=>by
 obtain⟨Zq,A,B,q,f⟩:=h00;obtain⟨⟨u,B1⟩,e1,f⟩:=f.of;refine⟨Zq,A,B,q,?_⟩;rw[e1];exact λv H1 q1 _ _ _=>f A L H1 q1⟩
def bb (g:Ev->R (U×Ev)):Ev->SR:=λB=>SR.of (g B) λx=>.rt x.1 x.2
theorem aw (h:DE X G e b1 m1 g1)(hn:m1≠.P:=by decide):DS X G .S (.Return (J e) pos) (bb g1):=⟨(xl h.un).to λD L H h00=>by
 obtain⟨Zq,A,B,q,f⟩:=h00;obtain⟨⟨u,B1⟩,e1,f⟩:=f.of;refine⟨Zq,A,B,q,?_⟩;rw[e1];exact λv H1 q1 _ _ vm=>f A L H1 v q1 ((vm.rp hn).mono q1.sup)⟩
theorem C0 (h:DE X G e b1 .O g1):DS X G .O (.Return (J e) pos) (bb g1):=⟨(xl h.un).to λD L H h00=>by
 obtain⟨Zq,A,B,q,f⟩:=h00;obtain⟨⟨u,B1⟩,e1,f⟩:=f.of;refine⟨Zq,A,B,q,?_⟩;rw[e1];intro v H1 q1 _ _ vm;obtain⟨a,rfl,na,nb,_,t⟩:=vm;exact f A L H1 _ q1 ⟨a,rfl,nb,λz=>na (q1.sup a z),t.mono λb z=>z.imp (q1.sup b) id⟩⟩
theorem LJ (hm:m≠.P:=by decide)(hi:G.io=M->i≠0)(hN:X.N[i]? = J x:=by rfl)(hv:EK X.env.scope x:=by first|exact Or.inl rfl|exact Or.inr (Or.inl rfl)|exact Or.inr (Or.inr rfl))(hd:(x==("__debug__":Str))=Y:=by decide)(iQ:(x==("__classdict__":Str))=Y:=by decide)(c:G.is i=M:=by rfl):DS X G m (.Return (J (.Name x p1)) pos) (bb (af i)):=⟨(xl (i5 hN hv hd iQ)).to λD L H h00=>by
 obtain⟨Zq,A,B,q,f⟩:=h00;obtain⟨⟨u,B1⟩,e1,f⟩:=f.of;unfold af at e1;split at e1
 ·rename_i u' hu;cases e1;obtain⟨a,h1,h2,h3,h4,h5⟩:=q.own c hu;have na:¬Zq.A0 a:=by
   rcases h4 with h4|⟨h4,h6⟩
   ·exact h4
   ·exact absurd h6 (hi h4)
  refine⟨.ref a,h1,f A L H _ q ?_⟩;cases m with
  |S=>exact h5.rp q.sup na
  |O=>exact⟨a,rfl,h3,na,h5.mono λb z=>by
    rcases z with z|z
    ·exact q.sup b z
    lia⟩
  |P=>exact absurd rfl hm
 ·cases e1⟩
def bL (i:Nat)(g:Ev->R (U×Ev)):Ev->SR:=λB=>SR.of (g B) λx=>.nx (x.2.set i (J x.1))
theorem tw (c:G.is i=Y)(hn:m1≠.P)(hi:∀L H Q,tD X.K G b1 m1 g1 L H Q->te L H Q){D:mN}(h:Vx X.K G m (bL i g1) D L H):yX te (qf i) D L H:=by
 obtain⟨Zq,A,B,q,f⟩:=h;obtain⟨⟨u,B1⟩,e1,f⟩:=f.of;refine hi _ _ _ ⟨Zq,A,B,q,?_⟩;rw[e1];exact λv H1 q1 _ _ vm=>f A _ H1 (q1.set c (vm.rp hn))
theorem E4 (c:G.is i=M)(h0:G.io=M->i≠0)(hi:∀L H Q,tD X.K G b1 .O g1 L H Q->te L H Q){D:mN}(h:Vx X.K G m (bL i g1) D L H):yX te (qf i) D L H:=by
 obtain⟨Zq,A,B,q,f⟩:=h;obtain⟨⟨u,B1⟩,e1,f⟩:=f.of;refine hi _ _ _ ⟨Zq,A,B,q,?_⟩;rw[e1];intro v H1 q1 _ _ vm;obtain⟨a,rfl,na,nb,r,t⟩:=vm;exact f _ _ H1 (q1.setO c h0 na nb r t)
def bo (hN:X.N.Nodup)(h:DE X G e b1 m1 g1)(hi:X.N[i]? = J x:=by rfl)(hx:CI X.env.scope x:=by first|exact Or.inl rfl|exact Or.inr rfl)(c:G.is i=Y:=by rfl)(hn:m1≠.P:=by decide)(hs:Ĭ e (J (.Name x p1)) pos.line X.env=pure Y:=by rfl)(hf:X.fn x=M\/X.env.scope.names.lookup x=J .local:=by first|exact .inl rfl|exact .inr rfl|assumption):DS X G m (.Assign [.Name x p1] e pos) (bL i g1):=⟨(xm hN hi hx h.un hs hf).to λ_ _ _=>tw c hn λ_ _ _ h=>h⟩
def jH (hN:X.N.Nodup)(h:DE X G e b1 .O g1)(h0:G.io=M->i≠0:=by decide)(hi:X.N[i]? = J x:=by rfl)(hx:CI X.env.scope x:=by first|exact Or.inl rfl|exact Or.inr rfl)(c:G.is i=M:=by rfl)(hs:Ĭ e (J (.Name x p1)) pos.line X.env=pure Y:=by rfl)(hf:X.fn x=M\/X.env.scope.names.lookup x=J .local:=by first|exact .inl rfl|exact .inr rfl|assumption):DS X G m (.Assign [.Name x p1] e pos) (bL i g1):=⟨(xm hN hi hx h.un hs hf).to λ_ _ _=>E4 c h0 λ_ _ _ h=>h⟩
noncomputable def zh (i j:Nat):Ev->SR:=λB=>match B[j]? with
 |some (J u)=>.nx ((B.set j Z).set i (J u))
 |_=>.stk
theorem LK (hN:X.N.Nodup)(h0:G.io=M->j≠0:=by decide)(hj:X.N[j]? = J y:=by rfl)(hv:EK X.env.scope y:=by first|exact Or.inl rfl|exact Or.inr (Or.inl rfl)|exact Or.inr (Or.inr rfl))(hd:(y==("__debug__":Str))=Y:=by decide)(iQ:(y==("__classdict__":Str))=Y:=by decide)(cj:G.is j=M:=by rfl)(hi:X.N[i]? = J x:=by rfl)(hx:CI X.env.scope x:=by first|exact Or.inl rfl|exact Or.inr rfl)(c:G.is i=Y:=by rfl)(hs:Ĭ (.Name y p2) (J (.Name x p1)) pos.line X.env=pure Y:=by rfl)(hf:X.fn x=M\/X.env.scope.names.lookup x=J .local:=by first|exact .inl rfl|exact .inr rfl|assumption):DS X G m (.Assign [.Name x p1] (.Name y p2) pos) (zh i j):=⟨(xm hN hi hx (i5 hj hv hd iQ) hs hf).to λD L H h00=>by
 obtain⟨Zq,A,B,q,f⟩:=h00;unfold zh at f;split at f
 ·rename_i u hu;obtain⟨a,A',h1,r,p⟩:=q.free cj h0 hu;exact⟨.ref a,h1,f A' _ H (r.set c p)⟩
 ·exact f.elim⟩
def fz (h:Ev->R (Bool×Ev))(s1 s2:Ev->SR):Ev->SR:=λB=>SR.of (h B) λx=>if x.1=M then s1 x.2 else s2 x.2
theorem bB {a b:List Ô}(hc:DT X G c b1 h1)(ha:BJ X G m a s1)(hb:BJ X G m b s2):DS X G m (.If c a b pos) (fz h1 s1 s2):=⟨(Ni hc.un ha.un hb.un).to λD L H h00=>by
 obtain⟨Zq,A,B,q,f⟩:=h00;obtain⟨⟨k,B1⟩,e1,f⟩:=f.of;refine⟨Zq,A,B,q,?_⟩;rw[e1];intro H1 q1 _ _;cases k with
 |true=>exact⟨Zq,A,B1,q1,f⟩
 |false=>exact⟨Zq,A,B1,q1,f⟩⟩
def jI (h:Ev->R (Bool×Ev))(s:Ev->SR):Nat->Ev->SR
 |0,_=>.stk
 |n+1,B=>SR.of (h B) λx=>if x.1=M then match s x.2 with
   | .nx B2=>jI h s n B2
   | .ct B2=>jI h s n B2
   | .bk B2=>.nx B2
   |r=>r
  else .nx x.2
theorem Hv {n:Nat}(hp:Μ (Ä X.prog X.w) X.A X.env X.xe)(hc:DT X G c b1 h1)(hb:BJ X G m body s1):DS X G m (.While c body [] pos) (jI h1 s1 n):=⟨(yY hp hc.un hb.un).to λD L H h00=>by
 obtain⟨Zq,A,B,q,f⟩:=h00;refine⟨λk L H=>∃A B,c_ X.K G Zq A B L H/\tq X.K G Zq m (jI h1 s1 k B) D,⟨n,A,B,q,f⟩,?_⟩;rintro k L H ⟨A,B,q,f⟩;cases k with
 |zero=>exact f.elim
 |succ k=>
  obtain⟨⟨t,B1⟩,e1,f⟩:=f.of;refine⟨Zq,A,B,q,?_⟩;rw[e1];intro H1 q1 _ _;cases t with
  |false=>exact f A L H1 q1
  |true=>
   refine⟨λL H=>∃A B,c_ X.K G Zq A B L H/\tq X.K G Zq m _ D,λL' H' z=>⟨k,δ k,z⟩,Zq,A,B1,q1,?_⟩;cases e2:s1 B1 with
   |nx B2=>rw[e2] at f;exact λA2 L2 H2 q2=>⟨A2,B2,q2,f⟩
   |ct B2=>rw[e2] at f;exact λA2 L2 H2 q2=>⟨A2,B2,q2,f⟩
   |bk B2=>rw[e2] at f;exact f
   |rt=>rw[e2] at f;exact f
   |exc=>rw[e2] at f;exact f
   |stk=>rw[e2] at f;exact f⟩
end
end L2
namespace L2
def Wk (K:Ê)(p:Bool)(A:G->Prop)(us:List U)(Jq:It)(H1:Hp):Prop:=us.length<=Â/\
 ∀H A',(if p=M then aO H1 H else eQ A H1 H)->(∀b,A' b->A b\/H1 b=Z)->(∀(i:Nat) (u:U),us[i]? = J u->Jq.go i H/\∀x H',Jq.yld i H x H'->aO H H'/\Rp K H' A' u x)/\Jq.stop us.length H
def Wt (K:Ê)(G:Gm)(b p:Bool)(gi:Ev->R (List U×Ev)):TI:=λL H R=>∃Zq A B,c_ K G Zq A B L H/\match gi B with
 | .ok (us,B')=>∀Jq H1,c_ K G Zq A B' L H1->eQ A H H1->(b=Y->B'=B/\aO H H1)->Wk K p A us Jq H1->R Jq H1
 |_=>False
structure DI (X:Cx)(G:Gm)(tg iter:É)(b p:Bool)(gi:Ev->R (List U×Ev)):Prop where
 un:PI X tg iter (Wt X.K G b p gi)
section
variable {G:Gm}{e a b:É}{p1:Pos}{b1 b2 b3:Bool}{m m1 m2 m3 mr:Md}{g1 g2 g3:Ev->R (U×Ev)}{h1 h2:Ev->R (Bool×Ev)}{ga:Ev->R (List U×Ev)}{s1 s2:Ev->SR}
def PI.to {t t':TI}(h:PI X tg e t)(i:∀L H Q,t' L H Q->t L H Q):PI X tg e t':=λpins s L H Q I q=>h pins s L H Q I (i _ _ _ q)
theorem PI.or {t t':TI}(h:PI X tg e t)(h':PI X tg e t'):PI X tg e (λL H R=>t L H R\/t' L H R):=λpins s L H Q I q=>by
 rcases q with q|q
 ·exact h pins s L H Q I q
 ·exact h' pins s L H Q I q
noncomputable def Wu:Md->Bool
 | .P=>M
 |_=>Y
def d6 (g:Ev->R (U×Ev)):Ev->R (List U×Ev):=λB=>(g B).bind λx=>match x.1 with
 | .lst us=>.ok (us,x.2)
 | .tup us=>.ok (us,x.2)
 | .scr us=>.ok (us,x.2)
 |_=>.stk
theorem LL (q:c_ K G Zq A B L H1)(h:rS K G Zq m1 A B L H1 (.lst us) v):∃a,v=.ref a/\(∃xs,eI K H1 a xs)/\Wk K (Wu m1) A us (Vq K a) H1:=by
 have hp:=h.pk;obtain⟨a,xs,rfl,rd,l,rs⟩:=hp;refine⟨a,rfl,⟨xs,eI.of rd⟩,l,λH A' hs ha=>?_⟩;have st:H a=J (.lst xs)/\∀(i:Nat) (u:U),us[i]? = J u->∃x,xs[i]? = J x/\Rp K H A' u x:=by
  cases hm:Wu m1 with
  |true=>
   rw[hm] at hs;refine⟨hs a _ rd,λi u hu=>?_⟩;obtain⟨x,h1,h2⟩:=rs.get hu;exact⟨x,h1,h2.re q.mu (eQ.same hs) ha⟩
  |false=>
   rw[hm] at hs;have hn:m1≠.P:=λz=>by subst z;cases hm
   have hr:=h.rp hn;obtain⟨a',xs',e,na,rd',_,VY⟩:=hr;cases e;refine⟨hs a _ na rd,λi u hu=>?_⟩;obtain⟨x,h1,h2⟩:=rs.get hu;exact⟨x,h1,h2.re q.mu hs ha⟩
 obtain⟨rd2,get⟩:=st;refine⟨λi u hu=>?_,⟨xs,eI.of rd2,by rw[<-rs.length];exact Ð _⟩⟩;obtain⟨x,h1,h2⟩:=get i u hu;refine⟨⟨xs,x,eI.of rd2,h1⟩,λy H' yl=>?_⟩;obtain⟨e,yl⟩:=yl;simp_all[eI.of,aO.refl]
theorem P5 {p:Bool}(q:c_ K G Zq A B L H1)(h:Pk K H1 A (.tup us) v):∃a,v=.ref a/\(∃xs,fE K H1 a xs)/\Wk K p A us (V9 K a) H1:=by
 obtain⟨a,xs,rfl,sq,l,rs⟩:=h;refine⟨a,rfl,⟨xs,fE.of sq⟩,l,λH A' hs ha=>?_⟩;have ex:eQ A H1 H:=by
  cases p with
  |true=>exact eQ.same hs
  |false=>exact hs
 have RZ:fE K H a xs:=fE.of (ex a _ (λz=>by have:=q.mu a z;rw[sq] at this;exact this) sq);refine⟨λi u hu=>?_,⟨xs,RZ,by rw[<-rs.length];exact Ð _⟩⟩;obtain⟨x,h1,h2⟩:=rs.get hu;refine⟨⟨xs,x,RZ,h1⟩,λy H' yl=>?_⟩;obtain⟨e,yl⟩:=yl;have e2:=yl xs RZ;rw[h1] at e2;cases e2;subst e;exact⟨aO.refl _,h2.re q.mu ex ha⟩
theorem P6 {p:Bool}(q:c_ K G Zq A B L H1)(h:Pk K H1 A (.scr us) v):∃a,v=.ref a/\(∃xs,eI K H1 a xs)/\Wk K p A us (Vq K a) H1:=by
 obtain⟨a,xs,rfl,sq,l,rs⟩:=h;refine⟨a,rfl,⟨xs,sq.sq⟩,l,λH A' hs ha=>?_⟩;have ex:eQ A H1 H:=by
  cases p with
  |true=>exact eQ.same hs
  |false=>exact hs
 have RZ:=(sq.to λo y w=>ex a _ (λz=>by have:=q.mu a z;rw[w] at this;exact this) w).sq;refine⟨λi u hu=>?_,⟨xs,RZ,by rw[<-rs.length];exact Ð _⟩⟩;obtain⟨x,h1,h2⟩:=rs.get hu;refine⟨⟨xs,x,RZ,h1⟩,λy H' yl=>?_⟩;obtain⟨e,yl⟩:=yl;have e2:=yl xs RZ;rw[h1] at e2;cases e2;subst e;exact⟨aO.refl _,h2.re q.mu ex ha⟩
theorem bX (h:DE X G e b1 m1 g1):DI X G tg e b1 (Wu m1) (d6 g1):=⟨((Lc h.un).or (Pp h.un)).to λL H RR h00=>by
 obtain⟨Zq,A,B,q,f⟩:=h00;unfold d6 at f;cases e1:g1 B with
 |stk=>rw[e1] at f;exact f.elim
 |exc=>rw[e1] at f;exact f.elim
 |ok y=>
  obtain⟨u,B1⟩:=y;rw[e1] at f;cases u with
  |lst us=>
   refine .inl ⟨Zq,A,B,q,?_⟩;rw[e1];intro v H1 q1 x1 s1 vm;obtain⟨a,e,l,wk⟩:=LL q1 vm;exact⟨a,e,l,f _ H1 q1 x1 s1 wk⟩
  |tup us=>
   refine .inr ⟨Zq,A,B,q,?_⟩;rw[e1];intro v H1 q1 x1 s1 vm;obtain⟨a,e,l,wk⟩:=P5 q1 vm.pk;exact⟨a,e,l,f _ H1 q1 x1 s1 wk⟩
  |scr us=>
   refine .inl ⟨Zq,A,B,q,?_⟩;rw[e1];intro v H1 q1 x1 s1 vm;obtain⟨a,e,l,wk⟩:=P6 q1 vm.pk;exact⟨a,e,l,f _ H1 q1 x1 s1 wk⟩
  |_=>exact f.elim⟩
noncomputable def aN (lo:Int)(n:Nat):List U:=(ê n).map λi=>.int (lo+(i:Nat))
theorem Hw {n:Nat}{p:Bool}(h:n<=Â):Wk K p A (aN lo n) (Vr lo n) H1:=by
 have hl:(aN lo n).length=n:=by unfold aN;rw[Æ,ĝ]
 refine⟨by rw[hl];exact h,λH A' _ _=>⟨λi u hu=>?_,by rw[hl];exact Ð _⟩⟩;unfold aN at hu;rw[ă] at hu;cases e:(ê n)[i]? with
 |none=>rw[e] at hu;cases hu
 |some j=>
  rw[e] at hu;obtain⟨l1,l2⟩:=ċ.mp e;rw[ĝ] at l1;rw[List.getElem_range] at l2;subst l2;cases hu;refine⟨l1,λx H' y=>?_⟩;obtain⟨rfl,rfl⟩:=y;exact⟨aO.refl _,dC⟩
def ig (ga:Ev->R (List U×Ev)):Ev->R (List U×Ev):=λB=>(ga B).bind λx=>match x.1 with
 | [.int j]=>if -1000000<=j/\j<=1000000 then .ok (aN 0 j.toNat,x.2) else .stk
 |_=>.stk
theorem d7 {a:É}(ha:DA X G [a] b1 Y ga)(hm:X.mg "range"=Z)(hg:Gl X "range":=by rfl)(hs:Ç [a] X.env=[(Y,Ì a X.env)]:=by rfl):DI X G tg (.Call (.Name "range" p1) [a] [] pos) b1 Y (ig ga):=⟨(EM hg hm ha.un hs).to λL H RR h00=>by
 obtain⟨Zq,A,B,q,f⟩:=h00;unfold ig at f;cases e1:ga B with
 |stk=>rw[e1] at f;exact f.elim
 |exc=>rw[e1] at f;exact f.elim
 |ok y=>
  obtain⟨us,B1⟩:=y;rw[e1] at f;dsimp only[L2.R.bind] at f;refine⟨Zq,A,B,q,?_⟩;rw[e1];intro vs H1 q1 x1 s1 vm;split at f
  ·rename_i R0 B' e2;split at e2
   ·rename_i j;split at e2
    ·cases e2;have r:=vm.rps;obtain⟨v,vr,rfl,r1,r2⟩:=r;subst r2;subst r1;exact⟨j,rfl,by lia,by omega,f _ H1 q1 x1 s1 (Hw (by have:Â=16777216:=rfl;(simp;lia)))⟩
    ·cases e2
   ·cases e2
  ·exact f.elim⟩
def kF (sg:U->Ev->R Ev)(s:Ev->SR):List U->Ev->SR
 | [],B=>.nx B
 |u::us,B=>SR.of (sg u B) λB1=>match s B1 with
   | .nx B2=>kF sg s us B2
   | .ct B2=>kF sg s us B2
   | .bk B2=>.nx B2
   |r=>r
def vE (gi:Ev->R (List U×Ev))(sg:U->Ev->R Ev)(s:Ev->SR):Ev->SR:=λB=>SR.of (gi B) λx=>kF sg s x.1 x.2
open Classical in
noncomputable def Pkg.lp (Zq:Pkg)(A:Õ->Prop)(H:Hp):Pkg:={Zq with B:=λb=>if A b/\Zq.B b=Z then Z else H b}
def xE {b:Õ}(h1:A b)(h2:Zq.B b=Z):(Zq.lp A H).B b=Z:=by
 unfold Pkg.lp;exact hV ⟨h1,h2⟩
def nV {b:Õ}(h:¬(A b/\Zq.B b=Z)):(Zq.lp A H).B b=H b:=by
 unfold Pkg.lp;exact hU h
def BK {b:Õ}(h:(Zq.lp A H).B b=Z):(A b/\Zq.B b=Z)\/H b=Z:=by
 by_cases c:A b/\Zq.B b=Z
 ·exact .inl c
 ·rw[nV c] at h;exact .inr h
theorem c_.lp (q:c_ K G Zq A B L H):c_ K G (Zq.lp A H) A B L H where
 slot:=λi u h=>by
  obtain⟨v,h1,h2⟩:=q.slot i u h;refine⟨v,h1,?_⟩;by_cases c:G.is i=M
  ·rw[hV c] at h2 |-;obtain⟨a,e1,e2,e3,e4,e5⟩:=h2;exact⟨a,e1,e2,xE e2 e3,e4,e5⟩
  ·rw[hU c] at h2 |-;exact h2
 dis:=q.dis
 mu:=q.mu
 sup:=q.sup
 out:=λa h=>(q.out a h).imp id λz=>xE h z
 bas:=λa o h=>by
  by_cases c:A a/\Zq.B a=Z
  ·simp_all[xE]
  ·rw[nV c] at h;exact h
 io0:=q.io0
 len:=q.len
theorem c_.unlp {A':Õ->Prop}{B':Ev}{L':St}(q:c_ K G Zq A B L H)(q':c_ K G (Zq.lp A H) A' B' L' H'):c_ K G Zq A' B' L' H':=by
 have sub:∀a,(Zq.lp A H).B a=Z->Zq.B a=Z:=λa h=>by
  rcases BK h with z|h
  ·exact z.2
  ·cases e:Zq.B a with
   |none=>rfl
   |some o=>rw[q.bas a o e] at h;cases h
 exact {
  slot:=λi u h=>by
   obtain⟨v,h1,h2⟩:=q'.slot i u h;refine⟨v,h1,?_⟩;by_cases c:G.is i=M
   ·rw[hV c] at h2 |-;obtain⟨a,e1,e2,e3,e4,e5⟩:=h2;exact⟨a,e1,e2,sub a e3,e4,e5⟩
   ·rw[hU c] at h2 |-;exact h2
  dis:=q'.dis
  mu:=q'.mu
  sup:=q'.sup
  out:=λa h=>(q'.out a h).imp id (sub a)
  bas:=λa o h=>q'.bas a o (by
   rw[nV (λz=>by lia)];exact q.bas a o h)
  io0:=q'.io0
  len:=q'.len}
theorem tq.lp {r:SR}{D:mN}(q:c_ K G Zq A B L H)(f:tq K G Zq m r D):tq K G (Zq.lp A H) m r D:=by
 cases r with
 |nx=>exact λA' L' H' q'=>f A' L' H' (q.unlp q')
 |bk=>exact λA' L' H' q'=>f A' L' H' (q.unlp q')
 |ct=>exact λA' L' H' q'=>f A' L' H' (q.unlp q')
 |rt u B'=>
  intro A' L' H' v q' vm;refine f A' L' H' v (q.unlp q') ?_;cases m with
  |S=>exact vm
  |P=>exact vm
  |O=>
   obtain⟨a,e,nb,na,t⟩:=vm;refine⟨a,e,?_,na,t⟩;rcases BK nb with z|h
   ·exact z.2
   ·cases e:Zq.B a with
    |none=>rfl
    |some o=>rw[q.bas a o e] at h;cases h
 |exc=>exact λH' hb=>f H' λa o h=>hb a o (by
   rw[nV (λz=>by rw[h] at z;exact nomatch z.2)];exact q.bas a o h)
 |stk=>exact f.elim
theorem mS {gi:Ev->R (List U×Ev)}(hp:Μ (Ä X.prog X.w) X.A X.env X.xe)(hc:X.calm=M)(hi:DI X G tg iter b1 Y gi)(hg:DG X G tg sg)(hb:BJ X G m body s1)(hs:∀x,Ō iter X.env x=pure x:=by intro _;rfl):DS X G m (.For tg iter body [] pos) (vE gi sg s1):=⟨(Lv hp hc hi.un hg.un hb.un hs).to λD L H h00=>by
 obtain⟨Zq,A,B,q,f⟩:=h00;obtain⟨⟨us,B1⟩,e1,f⟩:=f.of;refine⟨Zq,A,B,q,?_⟩;rw[e1];intro Jq H1 q1 x1 CC wk;obtain⟨hz,wk⟩:=wk;refine⟨λi k L H=>i+k=us.length/\∃A' B',c_ X.K G _ A' B' L H/\tq X.K G _ m (kF sg s1 (us.drop i) B') D,⟨us.length,by lia,A,B1,q1.lp,by exact f.lp q1⟩,?_⟩;rintro i k L H ⟨hk,A',B',q',f'⟩;have ex:eQ A H1 H:=λb o nb z=>q'.bas b o (by
  rw[nV (λy=>nb y.1)];exact z)
 have nw:∀b,A' b->A b\/H1 b=Z:=λb z=>by
  rcases q'.out b z with y|y
  ·exact .inl (q1.sup b y)
  ·rcases BK y with w|h
   ·exact .inl w.1
   ·exact .inr h
 obtain⟨w1,w2⟩:=wk H A' (by exact ex) nw;by_cases CB:i<us.length
 ·have eu:=Ø CB;obtain⟨go,yl⟩:=w1 i _ eu;rw[ξ CB] at f';obtain⟨B2,e2,f2⟩:=f'.of;refine .inr ⟨go,λL H=>∃A' B',c_ X.K G _ A' B' L H/\tq X.K G _ m _ D,λL' H' z=>⟨k-1,by omega,by (simp at *;lia),z⟩,λx H' y=>?_⟩;obtain⟨sm,rp⟩:=yl x H' y;refine⟨Zq.lp A H1,A',B',us[i],q'.same sm,rp,?_⟩;rw[e2];intro L2 q2 _;refine⟨Zq.lp A H1,A',B2,q2,?_⟩;cases e3:s1 B2 with
  |nx B3=>rw[e3] at f2;exact λA3 L3 H3 q3=>⟨A3,B3,q3,f2⟩
  |ct B3=>rw[e3] at f2;exact λA3 L3 H3 q3=>⟨A3,B3,q3,f2⟩
  |bk B3=>rw[e3] at f2;exact f2
  |rt=>rw[e3] at f2;exact f2
  |exc=>rw[e3] at f2;exact f2
  |stk=>rw[e3] at f2;exact f2
 ·have e:i=us.length:=by (simp at *;lia)
  subst e;rw[Ϡ] at f';exact .inl ⟨w2,f' A' L H q'⟩⟩
end
end L2
namespace L2
noncomputable def fG (js:List (Option Nat))(B:Ev):Ev:=js.map λo=>match o with
 |none=>Z
 |some j=>match B[j]? with
  |some v=>v
  |none=>Z
noncomputable def rq (G:Gm)(js:List (Option Nat)):Gm:=⟨js.map λo=>match o with
 |none=>Y
 |some j=>G.is j,Y,λ_=>False⟩
noncomputable def nW:List (Option Nat)->Bool
 | []=>M
 |none::r=>nW r
 |some j::r=> !(r.contains (J j))&&nW r
theorem tx:∀{js:List (Option Nat)} {i k j:Nat},nW js=M->js[i]? = J (J j)->js[k]? = J (J j)->i=k
 | [],_,_,_,_,h,_=>by simp at h
 |none::r,i,k,j,ok,h1,h2=>by
  unfold nW at ok;cases i with
  |zero=>simp at h1
  |succ i=>
   cases k with
   |zero=>simp at h2
   |succ k=>exact congrArg _ (tx ok (by simpa using h1) (by simpa using h2))
 |some j'::r,i,k,j,ok,h1,h2=>by
  unfold nW at ok;rw[é] at ok;have nm:∀n ,r[n]? ≠ J _:=λn h=>by
   have:=į h;simp at ok;exact ok.1 this
  cases i with
  |zero=>
   grind
  |succ i=>
   cases k with
   |zero=>simp at h1 h2;subst h2;exact absurd h1 (nm i)
   |succ k=>exact congrArg _ (tx ok.2 (by simpa using h1) (by simpa using h2))
theorem nX (h:(fG js B)[i]? = J (J u)):∃j,js[i]? = J (J j)/\B[j]? = J (J u):=by
 unfold fG at h;rw[ă] at h;cases e:js[i]? with
 |none=>rw[e] at h;cases h
 |some o=>
  rw[e] at h;cases o with
  |none=>cases h
  |some j=>
   refine⟨j,rfl,?_⟩;have h:=ó h;dsimp only at h;split at h
   ·rename_i v hv;rw[hv,h]
   ·cases h
def nY (h:js[i]? = J (J j))(hv:L[j]? = J (J v)):(CW js L)[i]? = J (J v):=by
 unfold CW;rw[ă,h];dsimp only[Option.map];rw[hv]
def tE {G:Gm}(h:js[i]? = J (J j)):(rq G js).is i=G.is j:=by
 unfold rq Gm.is;rw[Ż,ă,h];rfl
def C1 (js:List (Option Nat))(B:Ev)(L:St):(fG js B).length=(CW js L).length:=by
 unfold fG CW;rw[Æ,Æ]
section
variable {G:Gm}{Bi:Ev}
theorem C2 (q:c_ K G Zq A B L H)(ok:nW js=M):c_ K (rq G js) ⟨λ_=>False,λ_=>Z,0⟩ A (fG js B) (CW js L) H where
 slot:=λi u h=>by
  obtain⟨j,h1,h2⟩:=nX h;obtain⟨v,h3,h4⟩:=q.slot j u h2;refine⟨v,nY h1 h3,?_⟩;rw[tE h1];by_cases c:G.is j=M
  ·rw[hV c] at h4 |-;obtain⟨a,e1,e2,_,_,e5⟩:=h4;exact⟨a,e1,e2,rfl,.inl id,e5⟩
  ·rw[hU c] at h4 |-;exact h4
 dis:=λi k u w a ci ck ne hi hk si sk=>by
  obtain⟨j,h1,h2⟩:=nX hi;obtain⟨j',h1',VR⟩:=nX hk;rw[tE h1] at ci;rw[tE h1'] at ck;obtain⟨b,e1,_⟩:=q.own ci h2;obtain⟨b',CF,_⟩:=q.own ck VR;rw[nY h1 e1] at si;rw[nY h1' CF] at sk;cases si;cases sk;exact q.dis j j' u w a ci ck (λz=>ne (by subst z;exact tx ok h1 h1')) h2 VR e1 CF
 mu:=q.mu
 sup:=λ_ h=>h.elim
 out:=λ_ _=>.inr rfl
 bas:=λ_ _ h=>by cases h
 io0:=λh=>by cases h
 len:=C1 js B L
def LM (G:Gm)(js:List (Option Nat))(B:Ev)(L:St)(a:Õ):Prop:=∃(i j:Nat) (u:U),js[i]? = J (J j)/\G.is j=M/\B[j]? = J (J u)/\L[j]? = J (J (.ref a))
open Classical in
noncomputable def P7 (G:Gm)(js:List (Option Nat))(A:Õ->Prop)(B:Ev)(L:St)(H:Hp):Pkg:=⟨λa=>A a/\¬LM G js B L a,λa=>if LM G js B L a then Z else H a,0⟩
def tF (h:LM G js B L a):(P7 G js A B L H).B a=Z:=by
 unfold P7;exact hV h
def nZ (h:¬LM G js B L a):(P7 G js A B L H).B a=H a:=by
 unfold P7;exact hU h
theorem P8 (q:c_ K G Zq A B L H)(ok:nW js=M):c_ K (rq G js) (P7 G js A B L H) A (fG js B) (CW js L) H where
 slot:=λi u h=>by
  obtain⟨j,h1,h2⟩:=nX h;obtain⟨v,h3,h4⟩:=q.slot j u h2;refine⟨v,nY h1 h3,?_⟩;rw[tE h1];by_cases c:G.is j=M
  ·rw[hV c] at h4 |-;obtain⟨a,e1,e2,_,_,e5⟩:=h4;subst e1;have cp:LM G js B L a:=⟨i,j,u,h1,c,h2,h3⟩;exact⟨a,rfl,e2,tF cp,.inl λz=>z.2 cp,e5⟩
  ·rw[hU c] at h4 |-;exact h4
 dis:=(C2 q ok).dis
 mu:=q.mu
 sup:=λ_ h=>h.1
 out:=λa h=>by
  by_cases c:LM G js B L a
  ·exact .inr (tF c)
  ·exact .inl ⟨h,c⟩
 bas:=λa o h=>by
  by_cases c:LM G js B L a
  ·rw[tF c] at h;cases h
  ·rw[nZ c] at h;exact h
 io0:=λh=>by cases h
 len:=C1 js B L
noncomputable def kG:List (Option Nat)->Nat->Option Nat
 | [],_=>Z
 |o::r,j=>if o=J j then J 0 else (kG r j).map (·+1)
theorem wx:∀{js:List (Option Nat)} {i j:Nat},kG js j=J i->js[i]? = J (J j)
 | [],_,_,h=>by cases h
 |o::r,i,j,h=>by
  unfold kG at h;split at h
  ·rename_i e;cases h;rw[e];rfl
  ·cases e:kG r j with
   |none=>rw[e] at h;cases h
   |some k=>
    rw[e] at h;cases h;rw[ν];exact wx e
theorem tG:∀{js:List (Option Nat)} {i j:Nat},kG js j=Z->js[i]? ≠ J (J j)
 | [],_,_,_=>by simp
 |o::r,i,j,h=>by
  unfold kG at h;split at h
  ·cases h
  ·rename_i ne;cases e:kG r j with
   |some k=>rw[e] at h;cases h
   |none=>
    cases i with
    |zero=>intro z;exact ne (ó z)
    |succ i=>rw[ν];exact tG e
def wb (G:Gm)(js:List (Option Nat))(Bi B:Ev):Ev:=B.mapIdx λj x=>if (G.is j&&x.isSome)=M then (match kG js j with
 |some i=>(Bi[i]?).getD Z
 |none=>x) else x
theorem BL (h:(wb G js Bi B)[j]? = J (J u)):∃u0,B[j]? = J (J u0)/\((G.is j=M/\∃i,kG js j=J i/\Bi[i]? = J (J u))\/(u0=u/\(G.is j=Y\/kG js j=Z))):=by
 unfold wb at h;rw[List.getElem?_mapIdx] at h;cases e:B[j]? with
 |none=>rw[e] at h;cases h
 |some x=>
  rw[e] at h;have h:=ó h;cases x with
  |none=>simp at h
  |some u0=>
   refine⟨u0,rfl,?_⟩;dsimp only at h;by_cases c:G.is j=M
   ·rw[hV (by rw[c];rfl)] at h;split at h
    ·rename_i i hi;refine .inl ⟨c,i,hi,?_⟩;cases e2:Bi[i]? with
     |none=>rw[e2] at h;cases h
     |some y=>rw[e2] at h;simp at h;rw[h]
    ·rename_i hi;exact .inr ⟨ó h,.inr hi⟩
   ·have c:=Α.mpr c;rw[hU (by rw[c];exact ü)] at h;exact .inr ⟨ó h,.inl c⟩
theorem c_.wb {L4:St}(q:c_ K G Zq A B L H)(ok:nW js=M)(q':c_ K (rq G js) (P7 G js A B L H) A Bi L4 H')(ho:∀i,(rq G js).is i=M->L4[i]? = (CW js L)[i]?):c_ K G Zq A (L2.wb G js Bi B) L H'/\eQ A H H':=by
 have Vb:∀a,LM G js B L a->A a/\Zq.B a=Z:=λa h00=>by
  obtain⟨i,j,u,h1,h2,h3,h4⟩:=h00;obtain⟨b,e1,e2,e3,_⟩:=q.own h2 h3;lia
 have ex:eQ A H H':=λb o nb z=>q'.bas b o (by rw[nZ λc=>nb (Vb b c).1];exact z);refine⟨{
  slot:=λj u h=>?_
  dis:=λi k u w a ci ck ne hi hk si sk=>by
   obtain⟨u1,h1,_⟩:=BL hi;obtain⟨u2,h2,_⟩:=BL hk;exact q.dis i k u1 u2 a ci ck ne h1 h2 si sk
  mu:=q'.mu
  sup:=q.sup
  out:=q.out
  bas:=λa o h=>q'.bas a o (by
   rw[nZ λc=>by rw[(Vb a c).2] at h;cases h];exact q.bas a o h)
  io0:=q.io0
  len:=by unfold L2.wb;rw[List.length_mapIdx];exact q.len},ex⟩
 obtain⟨u0,h0,hh⟩:=BL h;rcases hh with⟨c,i,hi,hu⟩|⟨rfl,hc⟩
 ·have hj:=wx hi;obtain⟨a,e1,e2,e3,e4,_⟩:=q.own c h0;have ci:(rq G js).is i=M:=by rw[tE hj];exact c
  obtain⟨a',k1,k2,_,_,k5⟩:=q'.own ci hu;rw[ho i ci,nY hj e1] at k1;cases k1;refine⟨.ref a,e1,?_⟩;rw[hV c];exact⟨a,rfl,e2,e3,e4,k5⟩
 ·obtain⟨v,h1,h2⟩:=q.slot j u0 h0;refine⟨v,h1,?_⟩;by_cases c:G.is j=M
  ·rw[hV c] at h2 |-;obtain⟨a,rfl,e2,e3,e4,e5⟩:=h2;have hc:kG js j=Z:=by
    lia
   have nc:¬LM G js B L a:=λh00=>by
    obtain⟨i,j',u,z1,z2,z3,z4⟩:=h00;have ne:j≠j':=λz=>by subst z;exact tG hc z1
    exact q.dis j j' u0 u a c z2 ne h0 z3 h1 z4
   exact⟨a,rfl,e2,e3,e4,e5.re q.mu ex (λb z=>.inl z) λo z=>q'.bas a o (by rw[nZ nc];exact z)⟩
  ·rw[hU c] at h2 |-;exact h2.re q.mu ex λb z=>.inl z
end
def iS (f:U->R (Option U)):List U->R (List U)
 | []=>.ok []
 |u::us=>(f u).bind λo=>(iS f us).bind λr=>.ok (match o with
  |some y=>y::r
  |none=>r)
def j8 (js:List (Option Nat))(sg:U->Ev->R Ev)(gt:Ev->R (Bool×Ev))(ge:Ev->R (U×Ev))(B:Ev)(u:U):R (Option U):=
 (sg u (fG js B)).bind λBi=>(gt Bi).bind λc=>if c.1=M then (ge Bi).bind λy=>.ok (J y.1) else .ok Z
def dH (gi:Ev->R (List U×Ev))(js:List (Option Nat))(sg:U->Ev->R Ev)(gt:Ev->R (Bool×Ev))(ge:Ev->R (U×Ev)):Ev->R (U×Ev):=λB=>
 (gi B).bind λx=>(iS (j8 js sg gt ge x.2) x.1).bind λys=>.ok (.lst ys,x.2)
def rA (G:Gm)(js:List (Option Nat))(sg:U->Ev->R Ev)(gt:Ev->R (Bool×Ev))(ge:Ev->R (U×Ev)):List U->Ev->R (List U×Ev)
 | [],B=>.ok ([],B)
 |u::us,B=>(sg u (fG js B)).bind λBi=>(gt Bi).bind λc=>if c.1=M then (ge c.2).bind λy=>(rA G js sg gt ge us (wb G js y.2 B)).bind λr=>.ok (y.1::r.1,r.2) else rA G js sg gt ge us (wb G js c.2 B)
def vF (G:Gm)(gi:Ev->R (List U×Ev))(js:List (Option Nat))(sg:U->Ev->R Ev)(gt:Ev->R (Bool×Ev))(ge:Ev->R (U×Ev)):Ev->R (U×Ev):=λB=>
 (gi B).bind λx=>(rA G js sg gt ge x.1 x.2).bind λy=>.ok (.lst y.1,y.2)
theorem R.bind_ok {α β:Type}{x:R α}{k:α->R β}{b:β}(h:x.bind k=.ok b):∃a,x=.ok a/\k a=.ok b:=by
 cases x with
 |ok a=>exact⟨a,rfl,h⟩
 |exc=>cases h
 |stk=>cases h
section
variable {G:Gm}{e:É}{b1 b2 b3 p:Bool}{m me:Md}{gi:Ev->R (List U×Ev)}{gt:Ev->R (Bool×Ev)}{ge:Ev->R (U×Ev)}
theorem zj (ok:nW js=M)(hn:me≠.P){Q:VK}(h:tD X.K G b1 .O (dH gi js sg gt ge) L H Q) :
  Vu (Wt X.K G b1 p gi) js (λ_=>Wo X.K (rq G js) sg) (λ_=>Gh X.K (rq G js) Y gt) (λ_=>tD X.K (rq G js) Y me ge) L H Q:=by
 obtain⟨Zq,A,B,q,f⟩:=h;obtain⟨⟨us,B1⟩,e1,f⟩:=f.bind;obtain⟨all,e2,f⟩:=f.bind;refine⟨Zq,A,B,q,?_⟩;rw[e1];intro Jq H1 q1 x1 s1 ⟨hz,wk⟩ Yq;refine⟨λi k ys H2=>i+k=us.length/\aO H1 H2/\∃done rest,iS _ (us.drop i)=.ok rest/\done++rest=all/\ba X.K H2 A done ys/\done.length<=i,
  ⟨us.length,by lia,aO.refl _,[],all,by exact e2,rfl,ba.nil,Ð _⟩,?_⟩
 rintro i k ys H2 ⟨hk,sm,done,rest,e3,e4,rs,hd⟩;have q2:=q1.same sm;obtain⟨w1,w2⟩:=wk H2 A (by split;exact sm;exact eQ.same sm) λb z=>.inl z;by_cases CB:i<us.length
 ·have eu:=Ø CB;obtain⟨go,yl⟩:=w1 i _ eu;rw[ξ CB] at e3;obtain⟨o,e5,e3⟩:=R.bind_ok e3;obtain⟨r,e6,e3⟩:=R.bind_ok e3;obtain⟨Bi,e7,e5⟩:=R.bind_ok e5;obtain⟨⟨c,Bc⟩,e8,e5⟩:=R.bind_ok e5;refine .inr ⟨go,by rw[<-rs.length];lia,λO5 H'=>aO H1 H'/\∃done,done++r=all/\ba X.K H' A done O5/\done.length<=i+1,λO5 H' ⟨z1,dn,z2,z3,z4⟩=>⟨k-1,by lia,by lia,z1,dn,r,e6,z2,z3,z4⟩,λx H3 y=>?_⟩;obtain⟨rh,rp⟩:=yl x H3 y;refine⟨_,A,fG js B1,us[i],(C2 (q2.same rh) ok),rp,?_⟩;rw[e7];intro L4 q4 _;refine⟨_,A,Bi,q4,?_⟩;rw[e8];intro H5 q5 x5 s5;obtain⟨rfl,Gp⟩:=s5 rfl;cases c with
  |false=>
   cases e5;cases e3;exact⟨(sm.trans rh).trans Gp,done,e4,(rs.same rh).same Gp,by lia⟩
  |true=>
   obtain⟨⟨y1,By⟩,e9,e5⟩:=R.bind_ok e5;cases e5;cases e3;refine⟨_,A,Bc,q5,?_⟩;rw[e9];intro v H6 q6 x6 s6 vm;obtain⟨rfl,sm6⟩:=s6 rfl;have YC:=rh.trans (Gp.trans sm6);exact⟨sm.trans YC,done++[y1],by rw[õ];exact e4,(rs.same YC).append (ba.cons (vm.rp hn) ba.nil),by simp;lia⟩
 ·have e:i=us.length:=by lia
  subst e;rw[Ϡ] at e3;cases e3;rw[ā] at e4;subst e4;refine .inl ⟨w2,λa na=>?_⟩;have sn:=cK na (.lst ys);exact f _ _ (q2.same sn) ((x1.trans (eQ.same sm)).trans (eQ.same sn)) (nQ (nQ s1 sm) sn) (Hk.e q2 sn ⟨a,rfl,na,cQ q2.mu rs na (by lia)⟩)
theorem zk (ok:nW js=M)(hn:me≠.P){Q:VK}(h:tD X.K G M .O (vF G gi js sg gt ge) L H Q) :
  Vu (Wt X.K G b1 Y gi) js (λ_=>Wo X.K (rq G js) sg) (λ_=>Gh X.K (rq G js) b2 gt) (λ_=>tD X.K (rq G js) b3 me ge) L H Q:=by
 obtain⟨Zq,A,B,q,f⟩:=h;obtain⟨⟨us,B1⟩,e1,f⟩:=f.bind;obtain⟨⟨all,Be⟩,e2,f⟩:=f.bind;refine⟨Zq,A,B,q,?_⟩;rw[e1];intro Jq H1 q1 x1 s1 ⟨hz,wk⟩ Yq;dsimp only at e2 f;refine⟨λi k ys H2=>i+k=us.length/\eQ A H1 H2/\∃B2 done rest,c_ X.K G Zq A B2 L H2/\rA G js sg gt ge (us.drop i) B2=.ok (rest,Be)/\done++rest=all/\ba X.K H2 A done ys/\done.length<=i,
  ⟨us.length,by lia,eQ.refl,B1,[],all,q1,by exact e2,rfl,ba.nil,Ð _⟩,?_⟩
 rintro i k ys H2 ⟨hk,ex,B2,done,rest,q2,e3,e4,rs,hd⟩;obtain⟨w1,w2⟩:=wk H2 A (by exact ex) λb z=>.inl z;by_cases CB:i<us.length
 ·have eu:=Ø CB;obtain⟨go,yl⟩:=w1 i _ eu;rw[ξ CB] at e3;obtain⟨Bi,e7,e3⟩:=R.bind_ok e3;obtain⟨⟨c,Bc⟩,e8,e3⟩:=R.bind_ok e3;refine .inr ⟨go,by rw[<-rs.length];lia,λO5 H'=>eQ A H1 H'/\∃B2 done rest,c_ X.K G Zq A B2 L H'/\rA G js sg gt ge _ B2=.ok _/\done++rest=all/\ba X.K H' A done O5/\done.length<=i+1,λO5 H' z=>⟨k-1,by omega,by lia,z⟩,λx H3 y=>?_⟩;obtain⟨rh,rp⟩:=yl x H3 y;have q3:=q2.same rh;refine⟨P7 G js A B2 L H3,A,fG js B2,us[i],P8 q3 ok,rp,?_⟩;rw[e7];intro L4 q4 o4;refine⟨_,A,Bi,q4,?_⟩;rw[e8];intro H5 q5 x5 s5;cases c with
  |false=>
   obtain⟨q6,x6⟩:=q3.wb ok q5 o4;exact⟨ex.trans ((eQ.same rh).trans x6),_,done,rest,q6,e3,e4,(rs.same rh).re q3.mu x6 (λb z=>.inl z),by lia⟩
  |true=>
   obtain⟨⟨y1,By⟩,e9,e3⟩:=R.bind_ok e3;obtain⟨⟨r,Br⟩,e10,e3⟩:=R.bind_ok e3;cases e3;refine⟨_,A,Bc,q5,?_⟩;rw[e9];intro v H6 q6 x6 s6 vm;obtain⟨q7,x7⟩:=q3.wb ok q6 o4;exact⟨ex.trans ((eQ.same rh).trans x7),_,done++[y1],r,q7,e10,by rw[õ];exact e4,((rs.same rh).re q3.mu x7 (λb z=>.inl z)).append (ba.cons (vm.rp hn) ba.nil),by simp;lia⟩
 ·have e:i=us.length:=by lia
  subst e;rw[Ϡ] at e3;cases e3;rw[ā] at e4;subst e4;refine .inl ⟨w2,λa na=>?_⟩;have sn:=cK na (.lst ys);exact f _ _ (q2.same sn) ((x1.trans ex).trans (eQ.same sn)) (λz=>nomatch z) (Hk.e q2 sn ⟨a,rfl,na,cQ q2.mu rs na (by lia)⟩)
structure E5 (X:Cx)(G:Gm)(sI:List É)(b:Bool)(h:Ev->R (Bool×Ev)):Prop where
 un:EY X sI (Gh X.K G b h)
noncomputable def bK:Ev->R (Bool×Ev):=λB=>.ok (M,B)
def aX:E5 X G [] Y bK:=⟨λpins s L H Q I ⟨Zq,A,B,q,f⟩=>G5 pins s L H Q I (f H q eQ.refl λ_=>⟨rfl,aO.refl _⟩)⟩
def zm {h:Ev->R (Bool×Ev)}(hc:DT X G e b1 h):E5 X G [e] b1 h:=⟨G6 hc.un⟩
def cz (ke:Ā)(NX N:List Str)(js:List (Option Nat))(hc:X.calm=M)(hi:DI X G tg iter b1 p gi)(vk:∀Yq:rn,DG (fg X scope N Yq) (rq G js) tg sg/\E5 (fg X scope N Yq) (rq G js) sI Y gt/\DE (fg X scope N Yq) (rq G js) elt Y me ge)(hn:me≠.P:=by decide)(ok:nW js=M:=by rfl)(kn:X.env.scope=ke:=by rfl)(Ky:X.N=NX:=by rfl)(hS:sR ke NX scope N js=M:=by decide+kernel)(hs:∀x,Ō iter X.env x=pure x:=by intro _;rfl):DE X G (.ListComp elt [⟨tg,iter,sI,0⟩] scope pos) b1 .O (dH gi js sg gt ge):=⟨(Nn ke NX N js hc hi.un (λYq=>⟨(vk Yq).1.un,(vk Yq).2.1.un,(vk Yq).2.2.un⟩) kn Ky hS hs).to λ_ _ _=>zj ok hn⟩
def tH (ke:Ā)(NX N:List Str)(js:List (Option Nat))(hc:X.calm=M)(hi:DI X G tg iter b1 Y gi)(vk:∀Yq:rn,DG (fg X scope N Yq) (rq G js) tg sg/\E5 (fg X scope N Yq) (rq G js) sI b2 gt/\DE (fg X scope N Yq) (rq G js) elt b3 me ge)(hn:me≠.P:=by decide)(ok:nW js=M:=by rfl)(kn:X.env.scope=ke:=by rfl)(Ky:X.N=NX:=by rfl)(hS:sR ke NX scope N js=M:=by decide+kernel)(hs:∀x,Ō iter X.env x=pure x:=by intro _;rfl):DE X G (.ListComp elt [⟨tg,iter,sI,0⟩] scope pos) M .O (vF G gi js sg gt ge):=⟨(Nn ke NX N js hc hi.un (λYq=>⟨(vk Yq).1.un,(vk Yq).2.1.un,(vk Yq).2.2.un⟩) kn Ky hS hs).to λ_ _ _=>zk ok hn⟩
variable {j5:Pos}
def wy (ke:Ā)(NX N:List Str)(js:List (Option Nat))(hN:X.N.Nodup)(hc:X.calm=M)(hi:DI X G tg iter b1 p gi)(vk:∀Yq:rn,DG (fg X scope N Yq) (rq G js) tg sg/\E5 (fg X scope N Yq) (rq G js) sI Y gt/\DE (fg X scope N Yq) (rq G js) elt Y me ge)(hx:X.N[i]? = J x:=by rfl)(hl:CI X.env.scope x:=by first|exact Or.inl rfl|exact Or.inr rfl)(c:G.is i=Y:=by rfl)(hn:me≠.P:=by decide)(ok:nW js=M:=by rfl)(kn:X.env.scope=ke:=by rfl)(Ky:X.N=NX:=by rfl)(hS:sR ke NX scope N js=M:=by decide+kernel)(hw:Ĭ (.ListComp elt [⟨tg,iter,sI,0⟩] scope j5) (J (.Name x pos')) pos.line X.env=pure M:=by rfl)(hf:X.fn x=M\/X.env.scope.names.lookup x=J .local:=by first|exact .inl rfl|exact .inr rfl|assumption)(hs:∀x,Ō iter X.env x=pure x:=by intro _;rfl):DS X G m (.Assign [.Name x pos'] (.ListComp elt [⟨tg,iter,sI,0⟩] scope j5) pos) (bL i (dH gi js sg gt ge)):=⟨(y7 ke NX N js hN hx hl hc hi.un (λYq=>⟨(vk Yq).1.un,(vk Yq).2.1.un,(vk Yq).2.2.un⟩) kn Ky hS hw hf hs).to λ_ _ _=>tw c (by decide) λ_ _ _=>zj ok hn⟩
def E6 (ke:Ā)(NX N:List Str)(js:List (Option Nat))(hN:X.N.Nodup)(hc:X.calm=M)(hi:DI X G tg iter b1 Y gi)(vk:∀Yq:rn,DG (fg X scope N Yq) (rq G js) tg sg/\E5 (fg X scope N Yq) (rq G js) sI b2 gt/\DE (fg X scope N Yq) (rq G js) elt b3 me ge)(hx:X.N[i]? = J x:=by rfl)(hl:CI X.env.scope x:=by first|exact Or.inl rfl|exact Or.inr rfl)(c:G.is i=Y:=by rfl)(hn:me≠.P:=by decide)(ok:nW js=M:=by rfl)(kn:X.env.scope=ke:=by rfl)(Ky:X.N=NX:=by rfl)(hS:sR ke NX scope N js=M:=by decide+kernel)(hw:Ĭ (.ListComp elt [⟨tg,iter,sI,0⟩] scope j5) (J (.Name x pos')) pos.line X.env=pure M:=by rfl)(hf:X.fn x=M\/X.env.scope.names.lookup x=J .local:=by first|exact .inl rfl|exact .inr rfl|assumption)(hs:∀x,Ō iter X.env x=pure x:=by intro _;rfl):DS X G m (.Assign [.Name x pos'] (.ListComp elt [⟨tg,iter,sI,0⟩] scope j5) pos) (bL i (vF G gi js sg gt ge)):=⟨(y7 ke NX N js hN hx hl hc hi.un (λYq=>⟨(vk Yq).1.un,(vk Yq).2.1.un,(vk Yq).2.2.un⟩) kn Ky hS hw hf hs).to λ_ _ _=>tw c (by decide) λ_ _ _=>zk ok hn⟩
end
end L2
namespace L2
noncomputable def bF (n:Nat)(us:List U):Ev:=us.map J++List.replicate (n-us.length) Z
def cR (m:Md)(n:Nat)(s:Ev->SR):List U->R U:=λus=>match s (bF n us) with
 | .rt u _=>.ok u
 | .nx _=>if m=.S then .ok .non else .stk
 | .exc c u=>.exc c u
 |_=>.stk
def kH (n:Nat)(s:Ev->SR):List U->R (U×U):=λus=>match s (bF n us) with
 | .rt u B=>match B[0]? with
  |some (J w)=>.ok (u,w)
  |_=>.stk
 | .nx B=>match B[0]? with
  |some (J w)=>.ok (.non,w)
  |_=>.stk
 | .exc c u=>.exc c u
 |_=>.stk
theorem n0 {n:Nat}(h:(bF n us)[i]? = J (J u)):us[i]? = J u:=by
 unfold bF at h;by_cases c:i<(us.map J).length
 ·rw[Ŵ c,ă] at h;cases e:us[i]? with
  |none=>rw[e] at h;cases h
  |some w=>rw[e] at h;simp at h;rw[h]
 ·rw[Š (by lia),List.getElem?_replicate] at h;split at h
  ·cases h
  ·cases h
def lJ (h:vs[i]? = J v):(ô N vs)[i]? = J (J v):=by
 unfold ô;have c:i<(vs.map J).length:=by rw[Æ];exact (ċ.mp h).1
 rw[Ŵ c,ă,h];rfl
def C3 (h:us.length=vs.length):(bF N.length us).length=(ô N vs).length:=by
 unfold bF ô;rw[Þ,Þ,Æ,Æ,aeG,aeG,h]
section
variable {base:Í}
theorem xF (G:Gm)(m:Md)(s:Ev->SR)(ED:G.io=Y)(ma:∀i,i<ps.length->G.is i=Y)(dZ:∀(f:Õ) (bT:F) (A:Ñ) (outer:List Env) (s0:Ã) (H:Hp) (E:XK),cI k (A.deeper (Ć x (ag st) s0.heap.objs.size f bT))->
   BJ (eZ kg P w K mg base N x (ag st) f bT A outer s0 H E).nox G m (aU st) s) :
  (∀vs H Q E,ji K ps.length (cR m N.length s) m vs H Q E->vs.length=ps.length)/\∀(f:Õ) (bT:F) (A:Ñ) (outer:List Env) (s0:Ã) (H:Hp) (vs:List V) (Q:VK) (E:XK),cI k (A.deeper (Ć x (ag st) s0.heap.objs.size f bT))->ji K ps.length (cR m N.length s) m vs H Q E->
   ∃t,vy (eZ kg P w K mg base N x (ag st) f bT A outer s0 H E).nox (aU st) t/\t {nx:=λ_ H'=>Q .non H',rt:=Q} (ô N vs) H:=by
 have hl:∀(us:List U) (A:Õ->Prop) (H:Hp) (Q:VK),E2 K m A H (tj ps.length (cR m N.length s) us) Q->us.length=ps.length:=λus A H Q h=>by
  unfold tj at h;split at h
  ·assumption
  ·exact h.elim
 refine⟨λvs H Q E ⟨us,A,r,_,h⟩=>by rw[<-r.length];exact hl us A H Q h,λf bT A outer s0 H vs Q E hr ⟨us,A0,r,mu,h⟩=>⟨_,(dZ f bT A outer s0 H E hr).un,?_⟩⟩;have l:=hl us A0 H Q h;unfold tj at h;rw[hV l] at h;refine⟨⟨A0,H,0⟩,A0,bF N.length us,?_,?_⟩
 ·exact {
   slot:=λi u hu=>by
    have hu:=n0 hu;obtain⟨v,h1,h2⟩:=r.get hu;refine⟨v,lJ h1,?_⟩;rw[hU (by rw[ma i (by rw[<-l];exact (ċ.mp hu).1)];exact ü)];exact h2
   dis:=λi j u w a ci cj ne hi hj si sj=>by
    rw[ma i (by rw[<-l];exact (ċ.mp (n0 hi)).1)] at ci;cases ci
   mu:=mu
   sup:=λa h=>h
   out:=λa h=>.inl h
   bas:=λa o h=>h
   io0:=λh=>by lia
   len:=C3 r.length}
 ·unfold cR at h;cases e:s _ with
  |nx B'=>
   rw[e] at h;dsimp only at h;intro A' L' H' q;split at h
   ·rename_i hm;subst hm;exact h _ H' q.bas (show Rp K H' A0 .non .non from sZ)
   ·exact h.elim
  |rt u B'=>
   rw[e] at h;intro A' L' H' v q vm;refine h v H' q.bas ?_;cases m with
   |S=>exact vm
   |P=>exact vm.elim
   |O=>
    obtain⟨a,e1,e2,e3,e4⟩:=vm;exact⟨a,e1,e2,e4⟩
  |bk=>rw[e] at h;exact h.elim
  |ct=>rw[e] at h;exact h.elim
  |exc=>rw[e] at h;exact h.elim
  |stk=>rw[e] at h;exact h.elim
def Df.fnD (G:Gm)(m:Md)(s:Ev->SR)(d:Df K mg x st)(S:az N ps (ag st))(hb:∀(kV ku pm:F) (an:Option Õ) (bT ct:F) (us:List F),us.length=ps.length->bindArgs (Ĉ x x (di st) (aU st) (ag st) .none kV ku pm an bT ct) ⟨us,[]⟩=pure (ps.zip us))(ED:G.io=Y)(ma:∀i,i<ps.length->G.is i=Y)(dZ:∀(f:Õ) (bT:F) (A:Ñ) (outer:List Env) (s0:Ã) (H:Hp) (E:XK),cI k (A.deeper (Ć x (ag st) s0.heap.objs.size f bT))->
   BJ (eZ kg P w K mg base N x (ag st) f bT A outer s0 H E).nox G m (aU st) s):Fn P w K mg base x (k+1) ps (ji K ps.length (cR m N.length s) m):=
 d.fn S hb (xF G m s ED ma dZ).1 (xF G m s ED ma dZ).2
theorem rl.okD (G:Gm)(m:Md)(s:Ev->SR)(F:rl K x x st f fd)(S:az N ps (ag st))(ED:G.io=Y)(ma:∀i,i<ps.length->G.is i=Y)(dZ:∀(f:Õ) (bT:ò) (A:Ñ) (outer:List Env) (s0:Ã) (H:Hp) (E:XK),cI k (A.deeper (Ć x (ag st) s0.heap.objs.size f bT))->
   BJ (eZ kg P w K mg base N x (ag st) f bT A outer s0 H E).nox G m (aU st) s):fc P w K mg base kg (k+1) f fd ps (ji K ps.length (cR m N.length s) m):=
 F.ok S (xF G m s ED ma dZ).1 ((xF G m s ED ma dZ).2 f)
def zo (K:Ê):Sp:=λvs H Q _=>∃(a:G) (ns:List Int),vs=[.ref a]/\Ly K H a (ns.map V.int)/\ns.length<=63/\∀H',Q (.bl M) H'
theorem P9 (hO:Ls H)(h:eI K H a xs):Ly K H a xs:=by
 rcases h with (h|h)|h
 ·rcases hO a with z|⟨o,ys,z⟩
  ·lia
  lia
 ·exact .inl h
 ·exact .inr h
theorem zp {H:Hp}{A:G->Prop}:∀(ns:List Int),ba K H A (ns.map .int) (ns.map V.int)
 | []=>ba.nil
 |n::ns=>ba.cons dC (zp ns)
theorem P_ {f:List U->R U}{fa:G}(F:fc P w K mg base kg k fa fd ["script"] (ji K 1 f .S))(h:∀ns:List Int,ns.length<=63->f [.scr (ns.map .int)]=.ok (.bl M)):fc P w K mg base kg k fa fd ["script"] (zo K):=by
 refine F.imp λvs H Q E h00=>?_;obtain⟨a,ns,e,sc,l,q⟩:=h00;subst e;have hl:(ns.map U.int).length<=Â:=by rw[Æ];have:Â=16777216:=rfl;lia
 refine⟨[.scr (ns.map .int)],λ_=>False,ba.cons ?_ ba.nil,λ_ h=>h.elim,?_⟩
 ·exact⟨a,_,rfl,sc,hl,zp ns⟩
 ·have e:tj 1 f [.scr _]=.ok _:=(hV rfl).trans (h ns l);rw[e];intro v H' sm vm;have vm:=vm;subst vm;exact q H'
theorem Df.fnI (G:Gm)(s:Ev->SR)(d:Df K mg x st)(S:az N ps (ag st))(hb:∀(kV ku pm:F) (an:Option Õ) (bT ct:F) (us:List F),us.length=ps.length->bindArgs (Ĉ x x (di st) (aU st) (ag st) .none kV ku pm an bT ct) ⟨us,[]⟩=pure (ps.zip us))(ED:G.io=M)(h0:G.is 0=M)(ma:∀i,i<ps.length->i≠0->G.is i=Y)(dZ:∀(f:Õ) (bT:F) (A:Ñ) (outer:List Env) (s0:Ã) (H:Hp) (E:XK),cI k (A.deeper (Ć x (ag st) s0.heap.objs.size f bT))->
   BJ (eZ kg P w K mg base N x (ag st) f bT A outer s0 H E).nox G .S (aU st) s):Fn P w K mg base x (k+1) ps (Hq K ps.length (kH N.length s)):=by
 refine d.fn S hb ?_ ?_
 ·rintro vs H Q E ⟨u0,us,a0,vs',A,rfl,_,_,r,_,h⟩;unfold tj at h;split at h
  ·rename_i e;split at e
   ·rename_i l;rw[Ò,<-r.length,<-l];rfl
   ·cases e
  ·exact h.elim
 ·rintro f bT A outer s0 H vs Q E hr ⟨u0,us,a0,vs',A0,rfl,ha,t0,r,mu,h⟩;refine⟨_,(dZ f bT A outer s0 H E hr).un,?_⟩;have l:(u0::us).length=ps.length:=by
   unfold tj at h;by_cases c:(u0::us).length=ps.length
   ·exact c
   ·rw[hU c] at h;exact h.elim
  unfold tj at h;rw[hV l] at h
  let Zq:Pkg:=⟨A0,λb=>if b=a0 then Z else H b,a0⟩
  have zb:=λb o nb z=>by
   show (if b=a0 then Z else H b)=J o;rw[hU nb];exact z
  have rel:c_ K G Zq A0 (bF N.length (u0::us)) _ H:={
   slot:=λi u hu=>by
    have hu:=n0 hu;cases i with
    |zero=>
     simp at hu;subst hu;refine⟨.ref a0,lJ (by simp),?_⟩;rw[hV h0];exact⟨a0,rfl,ha,by show (if a0=a0 then Z else H a0)=Z;rw[hV rfl],.inr ⟨ED,rfl⟩,t0⟩
    |succ i=>
     have hl:=(ċ.mp hu).1;obtain⟨v,h1,h2⟩:=r.get hu;refine⟨v,lJ (by exact h1),?_⟩;rw[hU (by rw[ma (i+1) (by rw[<-l];exact hl) (by lia)];exact ü)];exact h2
   dis:=λi j u w a ci cj ne hi hj si sj=>by
    have hi:=(ċ.mp (n0 hi)).1;have hj:=(ċ.mp (n0 hj)).1;by_cases e:i=0
    ·rw[ma j (by rw[<-l];exact hj) (by lia)] at cj;cases cj
    ·rw[ma i (by rw[<-l];exact hi) e] at ci;cases ci
   mu:=mu
   sup:=λa h=>h
   out:=λa h=>.inl h
   bas:=λa o h=>by
    lia
   io0:=λ_=>⟨lJ (vs:=.ref a0::vs') rfl,h0⟩
   len:=C3 (by rw[Ò,Ò,r.length])}
  have fin:∀(A':Õ->Prop) (B':Ev) (L':St) (H':Hp) (w:U),c_ K G Zq A' B' L' H'->B'[0]? = J (J w)->(∀b o,b≠a0->H b=J o->H' b=J o)/\nD K H' A0 w a0:=λA' B' L' H' w q hw=>by
   obtain⟨a,e1,e2,e3,e4,e5⟩:=q.own h0 hw;rw[(q.io0 ED).1] at e1;cases e1;exact⟨λb o nb z=>q.bas b o (zb b o nb z),e5.mono q.sup⟩
  refine⟨Zq,A0,_,rel,?_⟩;unfold kH at h;cases e:s _ with
  |nx B'=>
   rw[e] at h;dsimp only at h;intro A' L' H' q;split at h
   ·rename_i hm;split at hm
    ·rename_i w hw;cases hm;obtain⟨z1,z2⟩:=fin A' B' L' H' _ q hw;exact h _ H' z1 z2 sZ
    ·cases hm
   ·exact h.elim
  |rt u B'=>
   rw[e] at h;dsimp only at h;intro A' L' H' v q vm;split at h
   ·rename_i hm;split at hm
    ·rename_i w hw;cases hm;obtain⟨z1,z2⟩:=fin A' B' L' H' _ q hw;exact h _ H' z1 z2 vm
    ·cases hm
   ·exact h.elim
  |bk=>rw[e] at h;exact h.elim
  |ct=>rw[e] at h;exact h.elim
  |exc=>rw[e] at h;exact h.elim
  |stk=>rw[e] at h;exact h.elim
end
section
variable {G:Gm}{e e2:É}{p1:Pos}{b1 b2:Bool}{m m1 m2:Md}{g1 g2:Ev->R (U×Ev)}
def C4 (i:Nat)(gv gk:Ev->R (U×Ev)):Ev->SR:=λB=>SR.of (gv B) λx=>if live x.2 i=M then SR.of (gk x.2) λy=>match y.1 with
 | .int k=>match y.2[i]? with
  |some (J (.lst us))=>match EV us.length k with
   |some j=>.nx (y.2.set i (J (.lst (us.set j x.1))))
   |none=>.stk
  |_=>.stk
 |_=>.stk
 else .stk
theorem C5 (he:DE X G e b1 m1 g1)(hk:DE X G e2 b2 m2 g2)(hn:m1≠.P:=by decide)(hN:X.N[i]? = J y:=by rfl)(hv:EK X.env.scope y:=by first|exact Or.inl rfl|exact Or.inr (Or.inl rfl)|exact Or.inr (Or.inr rfl))(c:G.is i=M:=by rfl)(hd:(y==("__debug__":Str))=Y:=by decide)(iQ:(y==("__classdict__":Str))=Y:=by decide)(ha:∀v,assign (.Subscript (.Name y p1) e2 p2) X.env v=(do
   let ov ←ę [v] (Ì (.Name y p1) X.env)
   let iv ←ę [v,ov] (Ì e2 X.env)
   standAt p2
   ę [v,ov,iv] (setItem ov iv v)
   release [v,ov,iv] []):=by intro _;rfl)(hs:swapsWithSole [.Subscript (.Name y p1) e2 p2] e pos.line X.env=pure Y:=by rfl)(hw:swappedStores [.Subscript (.Name y p1) e2 p2] e X.env=pure Z:=by rfl)(h1:(ķ [.Subscript (.Name y p1) e2 p2] X.env).map (·.2)=[assign (.Subscript (.Name y p1) e2 p2) X.env]:=by rfl):DS X G m (.Assign [.Subscript (.Name y p1) e2 p2] e pos) (C4 i g1 g2):=⟨(Pn he.un (Pm (i5 hN hv hd iQ) hk.un GW ha) hs hw h1).to λD L H h00=>by
 obtain⟨Zq,A,B,q,f⟩:=h00;obtain⟨⟨u,B1⟩,e1,f⟩:=f.of;refine⟨Zq,A,B,q,?_⟩;rw[e1];intro v H1 q1 x1 s1 vm;split at f
 ·rename_i hl;obtain⟨u00,hu0⟩:=xD hl;obtain⟨a0,h0,_⟩:=q1.own c hu0;obtain⟨⟨k,B2⟩,e2,f⟩:=f.of;refine⟨.ref a0,h0,Zq,A,B1,q1,?_⟩;rw[e2];intro v2 H2 q2 x2 s2 yN;cases k with
  |int kk=>
   dsimp only at f;split at f
   ·rename_i us hu;split at f
    ·rename_i j hj;obtain⟨a0',k1,k2,_,_,k5⟩:=q2.own c hu;rw[h0] at k1;cases k1;obtain⟨xs,t1,t2,t3⟩:=k5;refine⟨a0,xs,kk,j,rfl,yN.pk.int,t1,by rw[<-t3.length];exact hj,?_⟩;have em:∀b o,b≠a0->H2 b=J o->cT H2 a0 (.lst (xs.set j v)) b=J o:=λb o nb z=>by rw[aL nb];exact z
     have ex:eQ A H2 _:=λb o nb z=>em b o (λy=>nb (y▸k2)) z;refine f A L _ (q2.put c hu h0 em ⟨xs.set j v,aW,by rw[ł];exact t2,?_⟩);exact (t3.re q2.mu ex λb z=>.inl z).set j (((vm.rp hn).re q1.mu x2 λb z=>.inl z).re q2.mu ex λb z=>.inl z)
    ·exact f.elim
   ·exact f.elim
  |_=>exact f.elim
 ·exact f.elim⟩
def BM (i:Nat)(p:U->U->R U)(g:Ev->R (U×Ev)):Ev->SR:=λB=>match B[i]? with
 |some (J u)=>SR.of (g B) λy=>SR.of (p u y.1) λz=>.nx (y.2.set i (J z))
 |_=>.stk
noncomputable def Qa (f:Int->Int->Int):U->U->R U:=λu w=>match u,w with
 | .int i,.int j=>.ok (.int (f i j))
 |_,_=>.stk
theorem Hx {op:Operator}{f:Int->Int->Int}(ho:V4 X op (X3 f))(hN:X.N.Nodup)(he:DE X G e b1 m1 g1)(hi:X.N[i]? = J x:=by rfl)(hx:CI X.env.scope x:=by first|exact Or.inl rfl|exact Or.inr rfl)(c:G.is i=Y:=by rfl)(hf:X.fn x=M\/X.env.scope.names.lookup x=J .local:=by first|exact .inl rfl|exact .inr rfl|assumption):DS X G m (.AugAssign (.Name x p1) op e pos) (BM i (Qa f) g1):=⟨(Po hN hi hx he.un ho hf).to λD L H h00=>by
 obtain⟨Zq,A,B,q,f⟩:=h00;unfold BM at f;split at f
 ·rename_i u hu;obtain⟨v,h1,h2⟩:=q.val c hu;obtain⟨⟨w,B1⟩,e1,f⟩:=f.of;obtain⟨z,e2,f⟩:=f.of;dsimp only at e2 f;refine⟨v,h1,Zq,A,B,q,?_⟩;rw[e1];intro v2 H1 q1 x1 s1 vm;unfold Qa at e2;split at e2
  ·cases e2;unfold Rp at h2;subst h2;exact⟨_,_,rfl,vm.pk.int,f A _ H1 (q1.set c dC)⟩
  ·cases e2
 ·exact f.elim⟩
end
end L2
namespace L2
def Hy:R2:=λx y H Q=>∃l b xs zs,x=.ref l/\y=.ref b/\H l=J (.lst xs)/\H b=J (.lst zs)/\xs.length+zs.length<=Â/\∀p,H p=Z->Q (.ref p) (cT H p (.lst (xs++zs)))
theorem LN:iL X (Ę .Add) Hy:=by
 intro pins s L H x y v u Q I rx ry h;obtain⟨l,b,xs,zs,rfl,rfl,hH,hB,hz,q⟩:=h;cases rx;cases ry;obtain⟨z,its,n,r,hl,e⟩:=I.lstM hH;obtain⟨z2,its2,n2,r2,Nb,e2⟩:=I.lstM hB;refine PySem.P.add_list e e2 ?_ (by rw[ë,ë];simp_all);have ea:its.toArray++its2.toArray=(its++its2).toArray:=by simp
 rw[ea];exact⟨.ref _,_,I.lnew (r.append r2) (by rw[Þ];lia),rfl,q _ I.fresh⟩
noncomputable def de:U->U->R U:=λu w=>match u,w with
 | .int i,.int j=>.ok (.int (i+j))
 | .tup a,.tup b=>if a.length+b.length<=Â then .ok (.tup (a++b)) else .stk
 | .lst a,.lst b=>if a.length+b.length<=Â then .ok (.lst (a++b)) else .stk
 |_,_=>.stk
noncomputable def Tw:U->U->R U:=λu w=>match u,w with
 | .lst a,.lst b=>if a.length+b.length<=Â then .ok (.lst (a++b)) else .stk
 |_,_=>.stk
def Np:R2:=λx y H Q=>(xp λi j=>.int (i+j)) x y H Q\/Hh x y H Q\/Hy x y H Q
def bZ:iL X (Ę .Add) Np:=GC.or (Hi.or LN)
theorem LO:ez K Hy .O Tw:=λA H x y u w z Q hx hy mu e q=>by
 unfold Tw at e;split at e
 ·split at e
  ·rename_i hl;cases e;obtain⟨a,xs,rfl,h1,l1,r1⟩:=hx;obtain⟨b,ys,rfl,h2,l2,r2⟩:=hy;exact⟨a,b,xs,ys,rfl,rfl,h1,h2,by rw[<-r1.length,<-r2.length];exact hl,λp hp=>q _ _ (cK hp _) ⟨p,rfl,hp,cQ mu (r1.append r2) hp (by rw[Þ];exact hl)⟩⟩
  ·cases e
 ·cases e
theorem b_:ez K Np .S de:=λA H x y u w z Q hx hy mu e q=>by
 unfold de at e;split at e
 ·cases e;exact .inl ⟨_,_,hx.int,hy.int,q _ H (aO.refl _) (show Rp K H A _ _ from dC)⟩
 ·split at e
  ·rename_i hl;cases e;obtain⟨a,xs,rfl,h1,l1,r1⟩:=hx;obtain⟨b,ys,rfl,h2,l2,r2⟩:=hy;refine .inr (.inl ⟨a,b,xs,ys,rfl,rfl,h1,h2,by rw[<-r1.length,<-r2.length];exact hl,λr H' sm hr=>q _ H' sm (show Rp K H' A _ _ from ?_)⟩);exact⟨r,_,rfl,hr,by rw[Þ];exact hl,(r1.append r2).same sm⟩
  ·cases e
 ·refine .inr (.inr (LO A H x y _ _ z Q hx hy mu (e) λv H' sm vm=>q v H' sm ?_));obtain⟨a,rfl,na,t⟩:=vm;exact t.rp (λb h=>.inl h) λh=>by have:=mu a h;rw[na] at this;exact this
 ·cases e
noncomputable def pI (c:Int->Int->Bool)(f:Int->Int->Int):U->U->R U:=λu w=>match u,w with
 | .int i,.int j=>if c i j=M then .ok (.int (f i j)) else .stk
 |_,_=>.stk
theorem C6 {C:Int->Int->Prop}{c:Int->Int->Bool}{f:Int->Int->Int}(h:∀i j,c i j=M->C i j):ez K (rI C λi j=>.int (f i j)) .S (pI c f):=λA H x y u w z Q hx hy mu e q=>by
 unfold pI at e;split at e
 ·rename_i i j;split at e
  ·rename_i hc;cases e;exact⟨i,j,hx.int,hy.int,h i j hc,q _ H (aO.refl _) (show Rp K H A _ _ from dC)⟩
  ·cases e
 ·cases e
noncomputable def tJ:U->U->R U:=λu w=>match u,w with
 | .int i,.int j=>.ok (.int (i-j))
 |_,_=>.stk
theorem lK:ez K (xp λi j=>.int (i-j)) .S tJ:=λA H x y u w z Q hx hy mu e q=>by
 unfold tJ at e;split at e
 ·cases e;exact⟨_,_,hx.int,hy.int,q _ H (aO.refl _) (show Rp K H A _ _ from dC)⟩
 ·cases e
noncomputable def n8 (i j:Int):Bool:=(decide (-(2 ^ 64)<i)&&decide (i<2 ^ 64))||(decide (-(2 ^ 64)<j)&&decide (j<2 ^ 64))
def kI:U->U->R U:=pI n8 (·*·)
def gG:ez K (rI Le λi j=>.int (i*j)) .S kI:=C6 λi j h=>by
 unfold n8 at h;simp only[ϰ,é,decide_eq_true_eq] at h;exact h
noncomputable def BN (_ j:Int):Bool:=decide (0<j)&&decide (j<18446744073709551616)
def zq:U->U->R U:=pI BN (· / ·)
def tL:ez K (rI Hd λi j=>.int (i / j)) .S zq:=C6 λi j h=>by
 unfold BN at h;simp only[é,decide_eq_true_eq] at h;exact h
def zu:U->U->R U:=pI (λ_ j=>decide (0<j)) (· % ·)
def lL:ez K (rI (λ_ j=>0<j) λi j=>.int (i % j)) .S zu:=C6 λi j h=>of_decide_eq_true h
noncomputable def LQ (i j:Int):Bool:=decide (0<=j)&&decide (j<=1000000)&&decide (i.natAbs<2 ^ 64)
def LS:U->U->R U:=pI LQ λi j=>i ^ j.toNat
def C7:ez K (rI S4 λi j=>.int (i ^ j.toNat)) .S LS:=C6 λi j h=>by
 unfold LQ at h;simp only[é,decide_eq_true_eq] at h;exact⟨h.1.1,h.1.2,h.2⟩
noncomputable def pC (f:Int->Int->Bool):U->U->R U:=λu w=>match u,w with
 | .int i,.int j=>.ok (.bl (f i j))
 |_,_=>.stk
theorem C8 {f:Int->Int->Bool}:ez K (xp λi j=>.bl (f i j)) .S (pC f):=λA H x y u w z Q hx hy mu e q=>by
 unfold pC at e;split at e
 ·cases e;exact⟨_,_,hx.int,hy.int,q _ H (aO.refl _) (show Rp K H A _ _ from fA)⟩
 ·cases e
def Hz:U->U->R U:=pC λi j=>decide (i<j)
def KW:U->U->R U:=pC λi j=>decide (i<=j)
def Gi:U->U->R U:=pC λi j=>decide (j<i)
def Ww:U->U->R U:=pC λi j=>decide (j<=i)
mutual
noncomputable def iN:U->Option D
 | .non=>J .non
 | .bl b=>J (.bl b)
 | .int i=>J (.int i)
 | .str x=>J (.str x)
 | .tup us=>(ij us).map .tup
 | .lst us=>(ij us).map .lst
 | .dct _ _=>Z
 | .scr _=>Z
 | .obj _ _=>Z
noncomputable def ij:List U->Option (List D)
 | []=>J []
 |u::us=>(iN u).bind λd=>(ij us).map λds=>d::ds
end
mutual
theorem BO {H:Hp}{A:G->Prop}:∀{u:U} {v:V} {d:D},Rp K H A u v->iN u=J d->i6 K H d v
 | .non,v,d,h,e=>by grind[iN,Rp,i6]
 | .bl b,v,d,h,e=>by grind[iN,Rp,i6]
 | .int b,v,d,h,e=>by grind[iN,Rp,i6]
 | .str b,v,d,h,e=>by grind[iN,Rp,i6]
 | .tup us,v,d,h,e=>by
  unfold iN at e;cases e2:ij us with
  |none=>rw[e2] at e;cases e
  |some ds=>
   rw[e2] at e;cases e;unfold Rp at h;unfold i6;obtain⟨a,xs,r,q,l,z⟩:=h;exact⟨a,xs,r,fE.of q,lM z e2⟩
 | .lst us,v,d,h,e=>by
  unfold iN at e;cases e2:ij us with
  |none=>rw[e2] at e;cases e
  |some ds=>
   rw[e2] at e;cases e;unfold Rp at h;unfold i6;obtain⟨a,xs,r,_,q,l,z⟩:=h;exact⟨a,xs,r,eI.of q,lM z e2⟩
 | .dct _ _,v,d,h,e=>by grind[iN]
 | .scr _,v,d,h,e=>by grind[iN]
 | .obj _ _,v,d,h,e=>by grind[iN]
theorem lM {H:Hp}{A:G->Prop}:∀{us:List U} {vs:List V} {ds:List D},ba K H A us vs->ij us=J ds->fY K H ds vs
 | [],vs,ds,h,e=>by grind[ij,ba,fY]
 |u::us,vs,ds,h,e=>by
  unfold ij at e;cases e1:iN u with
  |none=>rw[e1] at e;cases e
  |some d=>
   cases e2:ij us with
   |none=>rw[e1,e2] at e;cases e
   |some ds'=>
    rw[e1,e2] at e;cases e;unfold ba at h;unfold fY;obtain⟨x,r,q,p,z⟩:=h;exact⟨x,r,q,BO p e1,lM z e2⟩
end
theorem xG {d:D}(h:Pk K H A u v)(e:iN u=J d):i6 K H d v:=by
 cases u with
 |lst us=>
  unfold iN at e;cases e2:ij us with
  |none=>rw[e2] at e;cases e
  |some ds=>
   rw[e2] at e;cases e;obtain⟨a,xs,r,q,l,z⟩:=h;exact⟨a,xs,r,eI.of q,lM z e2⟩
 |dct=>cases e
 |scr=>cases e
 |tup us=>exact BO (by exact h) e
 |_=>exact BO (A:=A) (by exact h) e
def n9 (u w:U):R Bool:=match iN u,iN w with
 |some d,J d'=>if du d<=30 then .ok (i7 d d') else .stk
 |_,_=>.stk
def lP (f:Bool->Bool):U->U->R U:=λu w=>(n9 u w).bind λb=>.ok (.bl (f b))
theorem cZ {f:Bool->Bool}:ez K (PU K f) .S (lP f):=λA H x y u w z Q hx hy mu e q=>by
 unfold lP n9 at e;obtain⟨b,e1,e2⟩:=R.bind_ok e;split at e1
 ·rename_i d d' h1 h2;split at e1
  ·rename_i hd;cases e1;cases e2;exact⟨d,d',xG hx h1,xG hy h2,hd,q _ H (aO.refl _) (show Rp K H A _ _ from fA)⟩
  ·cases e1
 ·cases e1
theorem BP {i:Int}{z:U}(r:ba K H A us xs)(e:kz us i=J z):∃v,kz xs i=J v/\Rp K H A z v:=by
 unfold kz at e |-;rw[<-r.length];cases h:EV us.length i with
 |none=>rw[h] at e;cases e
 |some j=>
  rw[h] at e;obtain⟨v,h1,h2⟩:=r.get (e);exact⟨v,h1,h2⟩
def c7:U->U->R U:=λu w=>match u,w with
 | .lst us,.int i=>match kz us i with
  |some z=>.ok z
  |none=>.stk
 | .tup us,.int i=>match kz us i with
  |some z=>.ok z
  |none=>.stk
 | .scr us,.int i=>match kz us i with
  |some z=>.ok z
  |none=>.stk
 | .str x,.int i=>match kz x.cps.toList i with
  |some c=>if x.length<=Â then .ok (.str ⟨#[c]⟩) else .stk
  |none=>.stk
 |_,_=>.stk
theorem aH:ez K (X5 K) .S c7:=λA H x y u w z Q hx hy mu e q=>by
 unfold c7 at e;split at e
 ·split at e
  ·rename_i z' hz;cases e;obtain⟨a,xs,rfl,h1,l1,r1⟩:=hx;obtain⟨v,h2,h3⟩:=BP r1 hz;exact .inl ⟨a,xs,_,v,rfl,hy.int,eI.of h1,h2,q _ H (aO.refl _) h3⟩
  ·cases e
 ·split at e
  ·rename_i z' hz;cases e;obtain⟨a,xs,rfl,h1,l1,r1⟩:=hx;obtain⟨v,h2,h3⟩:=BP r1 hz;exact .inr (.inl ⟨a,xs,_,v,rfl,hy.int,fE.of h1,h2,q _ H (aO.refl _) h3⟩)
  ·cases e
 ·split at e
  ·rename_i z' hz;cases e;obtain⟨a,xs,rfl,h1,l1,r1⟩:=hx;obtain⟨v,h2,h3⟩:=BP r1 hz;exact .inl ⟨a,xs,_,v,rfl,hy.int,h1.sq,h2,q _ H (aO.refl _) h3⟩
  ·cases e
 ·split at e
  ·rename_i z' hz;split at e
   ·rename_i hl;cases e;exact .inr (.inr ⟨_,_,z',hx.str,hy.int,hl,hz,q _ H (aO.refl _) (show Rp K H A _ _ from s9)⟩)
   ·cases e
  ·cases e
 ·cases e
noncomputable def jt {α:Type}(xs:List α)(lo hi:Option Int):List α:=(xs.drop (HT.sIx xs.length 0 lo)).take (HT.sIx xs.length xs.length hi-HT.sIx xs.length 0 lo)
theorem kJ {α:Type}(xs:List α)(lo hi:Option Int):(jt xs lo hi).length<=xs.length:=by
 unfold jt;rw[ÿ,ē];lia
def xH (r:ba K H A us xs)(lo hi:Option Int):ba K H A (jt us lo hi) (xu xs lo hi):=by
 unfold jt xu;rw[<-r.length];exact (r.drop _).take _
def dO:GU X (λx lo hi H Q=>Lq X.K x lo hi H Q\/Hg X.K x lo hi H Q):=Lr.or Lx
def n_:U->Option Int->Option Int->R U:=λu lo hi=>match u with
 | .lst us=>.ok (.lst (jt us lo hi))
 | .scr us=>.ok (.lst (jt us lo hi))
 | .tup us=>.ok (.tup (jt us lo hi))
 |_=>.stk
def Tx:U->Option Int->Option Int->R U:=λu lo hi=>match u with
 | .lst us=>.ok (.lst (jt us lo hi))
 | .scr us=>.ok (.lst (jt us lo hi))
 |_=>.stk
theorem C9:Ht K (Lq K) .O Tx:=λA H x u lo hi z Q hx mu e q=>by
 unfold Tx at e;split at e
 ·cases e;obtain⟨a,xs,rfl,h1,l1,r1⟩:=hx;exact⟨a,xs,rfl,eI.of h1,λp hp=>q _ _ (cK hp _) ⟨p,rfl,hp,cQ mu (xH r1 lo hi) hp (ä (kJ _ _ _) l1)⟩⟩
 ·cases e;obtain⟨a,xs,rfl,h1,l1,r1⟩:=hx;exact⟨a,xs,rfl,h1.sq,λp hp=>q _ _ (cK hp _) ⟨p,rfl,hp,cQ mu (xH r1 lo hi) hp (ä (kJ _ _ _) l1)⟩⟩
 ·cases e
theorem Nr (mu:∀a,A a->Mu (H a))(vm:Hk K .O A H H' u v):Rp K H' A u v:=by
 obtain⟨a,rfl,na,t⟩:=vm;exact t.rp (λb h=>.inl h) λh=>by have:=mu a h;rw[na] at this;exact this
theorem ik:Ht K (λx lo hi H Q=>Lq K x lo hi H Q\/Hg K x lo hi H Q) .S n_:=λA H x u lo hi z Q hx mu e q=>by
 unfold n_ at e;split at e
 ·cases e;exact .inl (C9 A H x _ lo hi _ Q hx mu rfl λv H' sm vm=>q v H' sm (Nr mu vm))
 ·cases e;exact .inl (C9 A H x _ lo hi _ Q hx mu rfl λv H' sm vm=>q v H' sm (Nr mu vm))
 ·cases e;obtain⟨a,xs,rfl,h1,l1,r1⟩:=hx;refine .inr ⟨a,xs,rfl,h1,λr H' sm hr=>q _ H' sm (show Rp K H' A _ _ from ?_)⟩;exact⟨r,_,rfl,hr,ä (kJ _ _ _) l1,(xH r1 lo hi).same sm⟩
 ·cases e
end L2
namespace L2
section
theorem KU.one (h:KU K H A [u] vs):∃v,vs=[v]/\Pk K H A u v:=by
 obtain⟨x,r,rfl,p,q⟩:=h;subst q;exact⟨x,rfl,p⟩
theorem KU.two {w:U}(h:KU K H A [u,w] vs):∃v v',vs=[v,v']/\Pk K H A u v/\Pk K H A w v':=by
 obtain⟨x,r,rfl,p,q⟩:=h;obtain⟨v,rfl,q'⟩:=KU.one q;exact⟨x,v,rfl,p,q'⟩
noncomputable def dI:List U->R U:=λus=>match us with
 | [.lst xs]=>.ok (.int xs.length)
 | [.tup xs]=>.ok (.int xs.length)
 | [.scr xs]=>.ok (.int xs.length)
 | [.str x]=>if x.length<=Â then .ok (.int x.length) else .stk
 |_=>.stk
theorem bV:mR K (λxs H Q=>∃x n,xs=[x]/\Pt K x H n/\Q (.int n) H) .S dI:=λA H vs us z Q h mu e q=>by
 unfold dI at e;split at e
 ·rename_i xs;cases e;obtain⟨v,rfl,p⟩:=h.one;obtain⟨a,ys,rfl,h1,l1,r1⟩:=p;exact⟨_,xs.length,rfl,.inl ⟨ys,eI.of h1,r1.length⟩,q _ H (aO.refl _) (show Rp K H A _ _ from dC)⟩
 ·rename_i xs;cases e;obtain⟨v,rfl,p⟩:=h.one;obtain⟨a,ys,rfl,h1,l1,r1⟩:=p;exact⟨_,xs.length,rfl,.inr ⟨ys,fE.of h1,r1.length⟩,q _ H (aO.refl _) (show Rp K H A _ _ from dC)⟩
 ·rename_i xs;cases e;obtain⟨v,rfl,p⟩:=h.one;obtain⟨a,ys,rfl,h1,l1,r1⟩:=p;exact⟨_,xs.length,rfl,.inl ⟨ys,h1.sq,r1.length⟩,q _ H (aO.refl _) (show Rp K H A _ _ from dC)⟩
 ·rename_i x;split at e
  ·rename_i hl;cases e;obtain⟨v,rfl,p⟩:=h.one;have:=p.str;subst this;exact⟨_,x.length,rfl,⟨hl,rfl⟩,q _ H (aO.refl _) (show Rp K H A _ _ from dC)⟩
  ·cases e
 ·cases e
noncomputable def fH:List U->R U:=λus=>match us with
 | [.lst xs]=>.ok (.tup xs)
 | [.tup xs]=>.ok (.tup xs)
 |_=>.stk
theorem d8:mR K (λxs H Q=>∃p ys,xs=[.ref p]/\((eI K H p ys/\∀l,H l=Z->Q (.ref l) (cT H l (.tup ys)))\/(fE K H p ys/\Q (.ref p) H))) .S fH:=λA H vs us z Q h mu e q=>by
 unfold fH at e;split at e
 ·cases e;obtain⟨v,rfl,p⟩:=h.one;obtain⟨a,ys,rfl,h1,l1,r1⟩:=p;exact⟨a,ys,rfl,.inl ⟨eI.of h1,λl hl=>q _ _ (cK hl _) (pH r1 hl l1)⟩⟩
 ·cases e;obtain⟨v,rfl,p⟩:=h.one;have p':=p;obtain⟨a,ys,rfl,h1,l1,r1⟩:=p;refine⟨a,ys,rfl,.inr ⟨fE.of h1,q _ H (aO.refl _) (show Rp K H A _ _ from ?_)⟩⟩;exact p'
 ·cases e
noncomputable def C_:List U->R U:=λus=>match us with
 | [.int i,.int j]=>.ok (.int (if j>i then j else i))
 |_=>.stk
theorem HA:mR K (λxs H Q=>∃i j,xs=[.int i,.int j]/\Q (.int (if j>i then j else i)) H) .S C_:=λA H vs us z Q h mu e q=>by
 unfold C_ at e;split at e
 ·cases e;obtain⟨v,w,rfl,p,p'⟩:=h.two;exact⟨_,_,by rw[p.int,p'.int],q _ H (aO.refl _) (show Rp K H A _ _ from dC)⟩
 ·cases e
noncomputable def zw:List U->R U:=λus=>match us with
 | [.int i,.int j]=>.ok (.int (if j<i then j else i))
 |_=>.stk
theorem zx:mR K (λxs H Q=>∃i j,xs=[.int i,.int j]/\Q (.int (if j<i then j else i)) H) .S zw:=λA H vs us z Q h mu e q=>by
 unfold zw at e;split at e
 ·cases e;obtain⟨v,w,rfl,p,p'⟩:=h.two;exact⟨_,_,by rw[p.int,p'.int],q _ H (aO.refl _) (show Rp K H A _ _ from dC)⟩
 ·cases e
noncomputable def HB:List U->R U:=λus=>match us with
 | [.int i]=>.ok (.int i)
 | [.bl k]=>.ok (.int (if k then 1 else 0))
 |_=>.stk
theorem Dd:mR K (λxs H Q=>(∃i,xs=[.int i]/\Q (.int i) H)\/∃k,xs=[.bl k]/\Q (.int (if k then 1 else 0)) H) .S HB:=λA H vs us z Q h mu e q=>by
 unfold HB at e;split at e
 ·cases e;obtain⟨v,rfl,p⟩:=h.one;exact .inl ⟨_,by rw[p.int],q _ H (aO.refl _) (show Rp K H A _ _ from dC)⟩
 ·cases e;obtain⟨v,rfl,p⟩:=h.one;exact .inr ⟨_,by rw[p.bl],q _ H (aO.refl _) (show Rp K H A _ _ from dC)⟩
 ·cases e
noncomputable def dP:List U->Option (List Int)
 | []=>J []
 | .int i::us=>(dP us).map (i::·)
 |_::_=>Z
noncomputable def jJ:List U->Option (List Bool)
 | []=>J []
 | .bl i::us=>(jJ us).map (i::·)
 |_::_=>Z
theorem fT:∀{us:List U} {ns:List Int},dP us=J ns->us=ns.map .int
 | [],ns,h=>by cases h;rfl
 |u::us,ns,h=>by
  cases u<;>unfold dP at h<;>try cases h
  cases e:dP us with
  |none=>rw[e] at h;cases h
  |some ms=>rw[e] at h;cases h;rw[fT e];rfl
theorem iq (ns:List Int):dP (ns.map .int)=J ns:=by
 induction ns with
 |nil=>rfl
 |cons n ns ih=>rw[å];unfold dP;rw[ih];rfl
theorem zy:∀{us:List U} {ns:List Bool},jJ us=J ns->us=ns.map .bl
 | [],ns,h=>by cases h;rfl
 |u::us,ns,h=>by
  cases u<;>unfold jJ at h<;>try cases h
  cases e:jJ us with
  |none=>rw[e] at h;cases h
  |some ms=>rw[e] at h;cases h;rw[zy e];rfl
theorem E7 (ns:List Bool):jJ (ns.map .bl)=J ns:=by
 induction ns with
 |nil=>rfl
 |cons n ns ih=>rw[å];unfold jJ;rw[ih];rfl
theorem ba.toI {H:Hp}{A:G->Prop}:∀{ns:List Int} {vs:List V},ba K H A (ns.map .int) vs->vs=ns.map V.int
 | [],vs,h=>by exact h
 |n::ns,vs,h=>by
  obtain⟨x,r,rfl,p,q⟩:=h;rw[p,ba.toI q];rfl
theorem ba.toB {H:Hp}{A:G->Prop}:∀{ns:List Bool} {vs:List V},ba K H A (ns.map .bl) vs->vs=ns.map V.bl
 | [],vs,h=>by exact h
 |n::ns,vs,h=>by
  obtain⟨x,r,rfl,p,q⟩:=h;rw[p,ba.toB q];rfl
theorem kK {H:Hp}{A:G->Prop}:∀(ns:List Int),ba K H A (ns.map .int) (ns.map V.int)
 | []=>ba.nil
 |n::ns=>ba.cons dC (kK ns)
def l8:List U->R U:=λus=>match us with
 | [.lst xs]=>match jJ xs with
  |some bs=>.ok (.bl (bs.all id))
  |none=>.stk
 |_=>.stk
theorem gH:mR K (λxs H Q=>∃(p:G) (bs:List Bool),xs=[.ref p]/\eI K H p (bs.map V.bl)/\Q (.bl (bs.all id)) H) .S l8:=λA H vs us z Q h mu e q=>by
 unfold l8 at e;split at e
 ·split at e
  ·rename_i bs hb;cases e;obtain⟨v,rfl,p⟩:=h.one;obtain⟨a,ys,rfl,h1,l1,r1⟩:=p;rw[zy hb] at r1;rw[r1.toB] at h1;exact⟨a,bs,rfl,eI.of h1,q _ H (aO.refl _) (show Rp K H A _ _ from fA)⟩
  ·cases e
 ·cases e
noncomputable def E8 (x:Int):List Int->List Int
 | []=>[x]
 |y::r=>if y<x then y::E8 x r else x::y::r
def qo (ns:List Int):List Int:=ns.foldr E8 []
theorem pK (x:Int):∀l,(E8 x l).Perm (x::l)
 | []=>.refl _
 |y::r=>by
  unfold E8;split
  ·exact ((pK x r).cons y).trans (.swap x y r)
  rfl
theorem ir:∀ns:List Int,(qo ns).Perm ns
 | []=>.refl _
 |x::l=>(pK x _).trans ((ir l).cons x)
theorem De (x:Int):∀{l:List Int},l.Pairwise (·<=·)->(E8 x l).Pairwise (·<=·)
 | [],_=>aeh _ _
 |y::r,h=>by
  obtain⟨h1,h2⟩:=ŏ.mp h;unfold E8;split
  ·refine ŏ.mpr ⟨λz hz=>?_,De x h2⟩;rcases à.mp ((pK x r).mem_iff.mp hz) with rfl|hz
   ·lia
   ·exact h1 z hz
  ·refine ŏ.mpr ⟨λz hz=>?_,h⟩;grind
theorem tN:∀ns:List Int,(qo ns).Pairwise (·<=·)
 | []=>List.Pairwise.nil
 |x::l=>De x (tN l)
def tP:List U->R U:=λus=>match us with
 | [.lst xs]=>match dP xs with
  |some ns=>if ns.length<64 then .ok (.lst ((qo ns).map .int)) else .stk
  |none=>.stk
 | [.tup xs]=>match dP xs with
  |some ns=>if ns.length<64 then .ok (.lst ((qo ns).map .int)) else .stk
  |none=>.stk
 |_=>.stk
theorem E9:mR K (λxs H Q=>∃(p:G) (ns:List Int),xs=[.ref p]/\(eI K H p (ns.map V.int)\/fE K H p (ns.map V.int))/\ns.length<64/\
  ∀(l:G) (vx:List Int),H l=Z->vx.Perm ns->vx.Pairwise (·<=·)->Q (.ref l) (cT H l (.lst (vx.map V.int)))) .O tP:=λA H vs us z Q h mu e q=>by
 have fin:∀(ns:List Int),ns.length<64->z=.lst ((qo ns).map .int)->∀(l:G) (vx:List Int),H l=Z->vx.Perm ns->vx.Pairwise _->Q (.ref l) (cT H l (.lst (vx.map _))):=λns hl hz l vx hn hp hw=>by
  have e:=PySem.W.ksm_same (hp.trans (ir ns).symm) hw (tN ns);subst e hz;refine q _ _ (cK hn _) ⟨l,rfl,hn,cQ mu (kK _) hn ?_⟩;have:Â=16777216:=rfl;rw[Æ,(ir ns).length_eq];lia
 unfold tP at e;split at e
 ·split at e
  ·rename_i ns hb;split at e
   ·rename_i hl;cases e;obtain⟨v,rfl,p⟩:=h.one;obtain⟨a,ys,rfl,h1,l1,r1⟩:=p;rw[fT hb] at r1;rw[r1.toI] at h1;exact⟨a,ns,rfl,.inl (eI.of h1),hl,fin ns hl rfl⟩
   ·cases e
  ·cases e
 ·split at e
  ·rename_i ns hb;split at e
   ·rename_i hl;cases e;obtain⟨v,rfl,p⟩:=h.one;obtain⟨a,ys,rfl,h1,l1,r1⟩:=p;rw[fT hb] at r1;rw[r1.toI] at h1;exact⟨a,ns,rfl,.inr (fE.of h1),hl,fin ns hl rfl⟩
   ·cases e
  ·cases e
 ·cases e
noncomputable def Wz (ks:List U):String:=match ks with
 | .tup _::_=>"script"
 |_=>"dict"
def Sq:U->String
 | .non=>"NoneType"
 | .bl _=>"bool"
 | .int _=>"int"
 | .str _=>"str"
 | .tup _=>"tuple"
 | .lst _=>"list"
 | .dct ks _=>Wz ks
 | .scr _=>"script"
 | .obj _ _=>"script"
theorem TB (h:Pk K H A u v)(hs:Sq u≠"script"):y_ K H v (Sq u):=by
 cases u<;>unfold Pk at h
 case scr=>exact absurd rfl hs
 case obj=>exact absurd rfl hs
 case non=>subst h;exact .non
 case bl=>subst h;exact .bl _
 case int=>subst h;exact .int _
 case str=>subst h;exact .str _
 case tup=>obtain⟨a,xs,rfl,h1,_⟩:=h;exact .tup h1
 case lst=>
  obtain⟨a,xs,rfl,h1,_⟩:=h;exact .lst h1
 case dct=>
  obtain⟨a,xs,rfl,h1,_⟩:=h;rcases h1 with⟨k,h1,e,_⟩|⟨k,n,h1,e,_⟩
  ·have:Wz (k.map λp=>kU p.1)="dict":=by
    cases k with
    |nil=>rfl
    |cons p k=>
     obtain⟨p1,p2⟩:=p;cases p1<;>rfl
   show y_ K H _ (Wz _);rw[e,this];exact .dK h1
  ·refine absurd e λe=>?_;cases k with
   |nil=>exact n rfl
   |cons p k=>rw[e] at hs;exact hs rfl
variable {G:Gm}{e:É}{p1:Pos}{b1:Bool}{m1:Md}{g1:Ev->R (U×Ev)}
def f6 (T:String)(g:Ev->R (U×Ev)):Ev->R (U×Ev):=λB=>(g B).bind λx=>if Sq x.1="script" then .stk else .ok (.bl (kC (Sq x.1) T),x.2)
theorem dF {T:String}(hT:T∈["bool","int","str","list","tuple","dict"])(he:DE X G e b1 m1 g1)(zi:X.mg "isinstance"=Z)(zt:X.mg x=Z)(bt:þ x=J (.type T))(hg:Gl X "isinstance":=by rfl)(ht:Gl X x:=by rfl)(hn:x≠"__name__":=by decide)(hd:(x==("__debug__":Str))=Y:=by decide)(hs:Ç [e,.Name x p2] X.env=(Y,Ì e X.env)::Ç [.Name x p2] X.env:=by rfl)(iK:Ç [.Name x p2] X.env=(Y,Ì (.Name x p2) X.env)::Ç [] X.env:=by rfl)(jh:(ã pos (Ç [.Name x p2] X.env)).any (·.1)=Y:=by rfl) :
  DE X G (.Call (.Name "isinstance" p1) [e,.Name x p2] [] pos) b1 .S (f6 T g1):=⟨(jk (qk hT) hg zi mf (df he.un (df (CJ (v:=.ty T) ht zt bt rfl hn hd) gm iK) hs) (by decide) (by decide) hs jh).to λL H Q h=>by
 obtain⟨Zq,A,B,q,f⟩:=h;obtain⟨⟨u,B1⟩,e1,f⟩:=f.bind;refine⟨Zq,A,B,q,?_⟩;rw[e1];intro v H1 q1 x1 s1 vm;split at f
 ·exact f.elim
 ·rename_i hn;exact⟨v,_,rfl,TB vm.pk hn,f _ H1 q1 x1 s1 (rS.ofS fA)⟩⟩
noncomputable def zA (i j:Int):Bool:=decide (-1000000<=i)&&decide (i<=1000000)&&decide (-1000000<=j)&&decide (j<=1000000)
def Dg (g:Ev->R (List U×Ev)):Ev->R (U×Ev):=λB=>(g B).bind λx=>match x.1 with
 | [.int j]=>if zA 0 j=M then .ok (.lst (aN 0 (j-0).toNat),x.2) else .stk
 |_=>.stk
def HC (g:Ev->R (List U×Ev)):Ev->R (U×Ev):=λB=>(g B).bind λx=>match x.1 with
 | [.int j]=>if zA 0 j=M then .ok (.tup (aN 0 (j-0).toNat),x.2) else .stk
 |_=>.stk
def wz (lo:Int)(n:Nat):ba K H A (aN lo n) ((ê n).map λi=>V.int (lo+(i:Nat))):=by
 unfold aN;have e1:(ê n).map (λi=>U.int (lo+(i:Nat)))=((ê n).map λi=>lo+(i:Nat)).map U.int:=by rw[ö];rfl
 have e2:(ê n).map (λi=>V.int (lo+(i:Nat)))=((ê n).map λi=>lo+(i:Nat)).map V.int:=by rw[ö];rfl
 rw[e1,e2];exact kK _
def bx (lo:Int)(n:Nat):(aN lo n).length=n:=by unfold aN;rw[Æ,ĝ]
variable {ga:Ev->R (List U×Ev)}{a:É}{p3 p4:Pos}
theorem Dh (hc:X.calm=M)(ha:DA X G [a] b1 Y ga)(zl:X.mg "list"=Z)(zr:X.mg "range"=Z)(hg:Gl X "list":=by rfl)(R1:Gl X "range":=by rfl)
  (hs:Ç [.Call (.Name "range" p3) [a] [] p4] X.env=(Y,Ì (.Call (.Name "range" p3) [a] [] p4) X.env)::Ç [] X.env:=by rfl) (iK:Ç [a] X.env=(Y,Ì a X.env)::Ç [] X.env:=by rfl)
  (jh:(ã pos (Ç [] X.env)).any (·.1)=Y:=by rfl) (CD:(ã p4 (Ç [] X.env)).any (·.1)=Y:=by rfl):DE X G (.Call (.Name "list" p1) [.Call (.Name "range" p3) [a] [] p4] [] pos) b1 .O (Dg ga):=⟨(eP (vC hc) hg zl Lw (df (eP ql R1 zr za ha.un (by decide) (by decide) iK CD) gm hs) (by decide) (by decide) hs jh).to λL H Q h=>by
 obtain⟨Zq,A,B,q,f⟩:=h;obtain⟨⟨us,B1⟩,e1,f⟩:=f.bind;refine⟨Zq,A,B,q,?_⟩;rw[e1];intro vs H1 q1 x1 s1 vm;dsimp only at f;split at f
 ·rename_i j;split at f
  ·rename_i hj;have r:=vm.rps;obtain⟨v,vr,rfl,r1,r2⟩:=r;subst r2;subst r1;unfold zA at hj;simp only[é,decide_eq_true_eq] at hj;refine⟨j,rfl,λp hp=>⟨p,0,j,rfl,aW,by (simp;lia),by (simp;lia),λl hl=>?_⟩⟩;have sp:=cK hp (.rng 0 j);have sl:=cK hl (.lst ((ê (j-0).toNat).map λi=>V.int (0+(i:Nat))));exact f _ _ ((q1.same sp).same sl) (x1.trans (eQ.same (sp.trans sl))) (nQ s1 (sp.trans sl)) (Hk.e (q1.same sp) sl ⟨l,rfl,hl,cQ (q1.same sp).mu (wz 0 _) hl (by rw[bx];have:Â=16777216:=rfl;(simp;lia))⟩)
  ·exact f.elim
 ·exact f.elim⟩
theorem LU (hc:X.calm=M)(ha:DA X G [a] b1 Y ga)(zl:X.mg "tuple"=Z)(zr:X.mg "range"=Z)(hg:Gl X "tuple":=by rfl)(R1:Gl X "range":=by rfl)
  (hs:Ç [.Call (.Name "range" p3) [a] [] p4] X.env=(Y,Ì (.Call (.Name "range" p3) [a] [] p4) X.env)::Ç [] X.env:=by rfl) (iK:Ç [a] X.env=(Y,Ì a X.env)::Ç [] X.env:=by rfl)
  (jh:(ã pos (Ç [] X.env)).any (·.1)=Y:=by rfl) (CD:(ã p4 (Ç [] X.env)).any (·.1)=Y:=by rfl):DE X G (.Call (.Name "tuple" p1) [.Call (.Name "range" p3) [a] [] p4] [] pos) b1 .S (HC ga):=⟨(eP (sX hc) hg zl bN (df (eP ql R1 zr za ha.un (by decide) (by decide) iK CD) gm hs) (by decide) (by decide) hs jh).to λL H Q h=>by
 obtain⟨Zq,A,B,q,f⟩:=h;obtain⟨⟨us,B1⟩,e1,f⟩:=f.bind;refine⟨Zq,A,B,q,?_⟩;rw[e1];intro vs H1 q1 x1 s1 vm;dsimp only at f;split at f
 ·rename_i j;split at f
  ·rename_i hj;have r:=vm.rps;obtain⟨v,vr,rfl,r1,r2⟩:=r;subst r2;subst r1;unfold zA at hj;simp only[é,decide_eq_true_eq] at hj;refine⟨j,rfl,λp hp=>⟨p,0,j,rfl,aW,by lia,by lia,λl hl=>?_⟩⟩;have sp:=cK hp (.rng 0 j);have sl:=cK hl (.tup ((ê (j-0).toNat).map λi=>V.int (0+(i:Nat))));exact f _ _ ((q1.same sp).same sl) (x1.trans (eQ.same (sp.trans sl))) (nQ s1 (sp.trans sl)) (rS.ofS (pH (wz 0 _) hl (by rw[bx];have:Â=16777216:=rfl;lia)))
  ·exact f.elim
 ·exact f.elim⟩
noncomputable def lQ:U->List U->R (U×U):=λu us=>match u,us with
 | .lst xs,[y]=>if xs.length<Â then .ok (.non,.lst (xs++[y])) else .stk
 |_,_=>.stk
def pL {a:Õ}(o:HO):∀b u,b≠a->H b=J u->cT H a o b=J u:=λb u nb z=>by rw[aL nb];exact z
def rY {a:Õ}(mu:∀a,A a->Mu (H a))(ha:A a)(r:ba K H A us xs)(l:us.length<=Â):nD K (cT H a (.lst xs)) A (.lst us) a:=
 ⟨xs,aW,l,r.re mu (λb o nb z=>pL _ b o (λy=>nb (y▸ha)) z) λb z=>.inl z⟩
theorem tQ:Hr K "list" nJ lQ:=λA H a u vs us z w Q t ha r mu e q=>by
 unfold lQ at e;split at e
 ·split at e
  ·rename_i hl;cases e;obtain⟨ys,h1,l1,r1⟩:=t;obtain⟨v,vr,rfl,p,r2⟩:=r;subst r2;exact⟨a,ys,v,rfl,rfl,h1,by rw[<-r1.length];exact hl,q _ _ (pL _) (rY mu ha (r1.append (ba.cons p ba.nil)) (by rw[Þ];exact hl)) sZ⟩
  ·cases e
 ·cases e
def zB:V->List V->Hp->VK->Prop:=λx vs H Q=>∃l b xs zs,x=.ref l/\vs=[.ref b]/\H l=J (.lst xs)/\H b=J (.lst zs)/\xs.length+zs.length<=Â/\Q .non (cT H l (.lst (xs++zs)))
theorem BQ:KR X "list.extend" zB:=by
 intro pins s L H x vs v us Q I rx rv h;obtain⟨l,b,xs,zs,rfl,rfl,hH,hB,hz,q⟩:=h;cases rx;obtain⟨u,rfl,ru⟩:=rv.one;cases ru;obtain⟨z,its,n,r,hl,e⟩:=I.lstM hH;obtain⟨z2,its2,n2,r2,Nb,e2⟩:=I.lstM hB;have hsz:its.toArray.size+its2.toArray.size<=Â:=by rw[ë,ë];lia
 have KC:¬(!its.toArray.isEmpty&&ad4 (its.toArray.size+its2.toArray.size))=M:=by
  rw[y6 hsz,Δ];exact ü
 refine call_meets F.slot_list_extend ⟨_,e,rfl⟩ F.entry_list_extend (F.args_list_extend_2 _ _)
  (PySem.AutoSeq1.list_extend_list_list_0 l _ n b _ n2 KC (by lia) (by lia)) ⟨e,e2,?_⟩
 refine⟨.non,_,I.lset hH e (by simp) (r.append r2) ?_,rfl,q⟩;rw[Þ];lia
def Nu:V->List V->Hp->VK->Prop:=λx vs H Q=>zB x vs H Q\/zc x vs H Q
def xI:KR X "list.extend" Nu:=BQ.or BH
noncomputable def fU:U->List U->R (U×U):=λu us=>match u,us with
 | .lst xs,[.lst ys]=>if xs.length+ys.length<=Â then .ok (.non,.lst (xs++ys)) else .stk
 | .lst xs,[.tup ys]=>if xs.length+ys.length<=Â then .ok (.non,.lst (xs++ys)) else .stk
 |_,_=>.stk
theorem mT:Hr K "list" Nu fU:=λA H a u vs us z w Q t ha r mu e q=>by
 unfold fU at e;split at e
 ·split at e
  ·rename_i hl;cases e;obtain⟨zs,h1,l1,r1⟩:=t;obtain⟨v,vr,rfl,p,r2⟩:=r;subst r2;obtain⟨b,ws,rfl,nb,h2,l2,r3⟩:=p;exact .inl ⟨a,b,zs,ws,rfl,rfl,h1,h2,by rw[<-r1.length,<-r3.length];exact hl,q _ _ (pL _) (rY mu ha (r1.append r3) (by rw[Þ];exact hl)) sZ⟩
  ·cases e
 ·split at e
  ·rename_i hl;cases e;obtain⟨zs,h1,l1,r1⟩:=t;obtain⟨v,vr,rfl,p,r2⟩:=r;subst r2;obtain⟨b,ws,rfl,h2,l2,r3⟩:=p;exact .inr ⟨a,b,zs,ws,rfl,rfl,h1,h2,by rw[<-r1.length,<-r3.length];exact hl,q _ _ (pL _) (rY mu ha (r1.append r3) (by rw[Þ];exact hl)) sZ⟩
  ·cases e
 ·cases e
noncomputable def pM:U->List U->R (U×U):=λu us=>match u,us with
 | .lst xs,[.int i]=>if -9223372036854775808<=i/\i<9223372036854775808 then (match ų i xs.length with
  |some k=>match xs[k]? with
   |some y=>.ok (y,.lst (xs.eraseIdx k))
   |none=>.stk
  |none=>.stk) else .stk
 |_,_=>.stk
theorem ba.erase {H:Hp}{A:Õ->Prop}:∀{us:List U} {vs:List V} (n:Nat),ba K H A us vs->ba K H A (us.eraseIdx n) (vs.eraseIdx n)
 | [],vs,n,h=>by subst h;exact ba.nil
 |u::us,vs,0,h=>by
  obtain⟨x,r,rfl,p,q⟩:=h;exact q
 |u::us,vs,n+1,h=>by
  obtain⟨x,r,rfl,p,q⟩:=h;exact ba.cons p (ba.erase n q)
theorem E_:Hr K "list" GZ pM:=λA H a u vs us z w Q t ha r mu e q=>by
 unfold pM at e;split at e
 ·rename_i xs i;split at e
  ·rename_i hi;split at e
   ·rename_i k hk;split at e
    ·rename_i y hy;cases e;obtain⟨zs,h1,l1,r1⟩:=t;obtain⟨v,vr,rfl,p,r2⟩:=r;subst r2;subst p;obtain⟨v,h2,h3⟩:=r1.get hy;exact⟨a,zs,i,k,v,rfl,rfl,h1,by simp[*],by simp[*],by rw[<-r1.length];exact hk,h2,q _ _ (pL _) (rY mu ha (r1.erase k) (ä (List.length_eraseIdx_le _ _) l1)) (h3.re mu (λb o nb z=>pL _ b o (λy=>nb (y▸ha)) z) λb z=>.inl z)⟩
    ·cases e
   ·cases e
  ·cases e
 ·cases e
end
end L2
namespace L2
section
variable {G:Gm}{m:Md}
def kL:ez K (xp λi j=>.bl (decide (i<j))) .S Hz:=C8
def mU:ez K (xp λi j=>.bl (decide (i<=j))) .S KW:=C8
def mV:ez K (xp λi j=>.bl (decide (j<i))) .S Gi:=C8
def Qb:ez K (xp λi j=>.bl (decide (j<=i))) .S Ww:=C8
theorem jK {YD:List Ô}:BJ X G m YD (λ_=>.stk):=⟨λpins s L H D I h=>by
 obtain⟨Zq,A,B,q,f⟩:=h;exact f.elim⟩
end
end L2
namespace Hc.Sx
open PySem.SetTable
noncomputable def i_:Nat->Nat
 |0=>0
 |n+1=>5*i_ n+1
theorem Di (n:Nat):5 ^ n=4*i_ n+1:=by
 induction n with
 |zero=>rfl
 |succ n ih=>rw[Ņ,ih];show _=4*(5*i_ n+1)+1;lia
theorem LV (m n:Nat):i_ (m+n)=5 ^ n*i_ m+i_ n:=by
 induction n with
 |zero=>simp[i_]
 |succ n ih=>
  show 5*i_ (m+n)+1=5 ^ (n+1)*i_ m+(5*i_ n+1);rw[ih,Ņ,Ũ (5 ^ n) 5,Ž];lia
theorem LW (n:Nat):i_ n % 2=n % 2:=by
 induction n with
 |zero=>rfl
 |succ n ih=>unfold i_;lia
theorem LX (d:Nat):i_ (d+d)=i_ d*(2*(2*i_ d+1)):=by
 rw[LV,Di];lia
theorem X7 (k q:Nat):Nat.Coprime (2 ^ k) (2*q+1):=by
 refine Nat.Coprime.pow_left k ?_;unfold Nat.Coprime;simp
theorem Dj:∀(k d:Nat),2 ^ k ∣ i_ d->2 ^ k ∣ d
 |0,d,_=>⟨d,by simp⟩
 |k+1,d,h=>by
  have e:d % 2=0:=by
   rw[<-LW];obtain⟨c,hc⟩:=h;grind
  obtain⟨d',rfl⟩:∃d',d=d'+d':=⟨d / 2,by lia⟩;rw[LX,Ņ,Ũ (2 ^ k) 2,aeB (i_ d') 2] at h;have h1:=Nat.dvd_of_mul_dvd_mul_left (by decide) h;have h2:=aeo (X7 k _) h1;obtain⟨c,hc⟩:=Dj k d' h2;exact⟨c,by rw[Ņ,Ž,aeB,<-hc];lia⟩
noncomputable def wA (Mq x:Nat):Nat->Nat
 |0=>x
 |n+1=>(wA Mq x n*5+1) % Mq
theorem Dk (Mq x:Nat):∀n,wA Mq x n % Mq=(5 ^ n*x+i_ n) % Mq
 |0=>by simp[wA,i_]
 |n+1=>by
  unfold wA i_;rw[Nat.mod_mod,Ņ,Ũ (5 ^ n) 5,Ž];have:=Dk Mq x n;rw[Nat.add_mod,Nat.mul_mod,this,<-Nat.mul_mod,<-Nat.add_mod];congr 1;lia
theorem xJ (Mq x m:Nat):∀n,wA Mq x (m+n)=wA Mq (wA Mq x m) n
 |0=>rfl
 |n+1=>by
  show (wA Mq x (m+n)*5+1) % Mq=_;rw[xJ Mq x m n];rfl
theorem HD {Mq x:Nat}(h:x<Mq):∀n,wA Mq x n<Mq
 |0=>h
 |n+1=>Ň _ (by lia)
theorem HF {x:Nat}(hx:x<2 ^ k)(h:wA (2 ^ k) x d=x):2 ^ k ∣ d:=by
 have e:=Dk (2 ^ k) x d;rw[h,Di,Nat.add_mul] at e;have h2:2 ^ k ∣ i_ d*(2*(2*x)+1):=by
  have:i_ d*(2*(2*x)+1)=4*i_ d*x+i_ d:=by
   rw[Nat.mul_add,Nat.mul_one,<-Ž,<-Ž,Ž (i_ d) 2 2,Ũ (i_ d)]
  rw[this];have e2:(x+(4*i_ d*x+i_ d)) % 2 ^ k=x % 2 ^ k:=by lia
  have e3:((4*i_ d*x+i_ d)) % 2 ^ k=0:=by
   have:=(Nat.mod_eq_mod_iff).mp e2;obtain⟨a,b,Ge⟩:=this;have:4*i_ d*x+i_ d+2 ^ k*a=2 ^ k*b:=by rw[Ũ _ a,Ũ _ b];lia
   have h3:=(Nat.dvd_add_right (Nat.dvd_mul_right (2 ^ k) a)).mp (by rw[Nat.add_comm,this];exact Nat.dvd_mul_right _ _);exact Nat.mod_eq_zero_of_dvd h3
  exact Nat.dvd_of_mod_eq_zero e3
 exact Dj k d (aeo (X7 k _) h2)
theorem LY {x a b:Nat}(hx:x<2 ^ k)(ha:a<2 ^ k)(hb:b<2 ^ k)(h:wA (2 ^ k) x a=wA (2 ^ k) x b):a=b:=by
 have key:∀a b,a<=b->b<2 ^ k->wA (2 ^ k) x a=wA (2 ^ k) x b->a=b:=λa b Ge hb h=>by
  obtain⟨d,rfl⟩:∃d,b=a+d:=⟨b-a,by simp[*]⟩;rw[xJ] at h;have:=HF (HD hx a) h.symm;have:=Nat.eq_zero_of_dvd_of_lt this (by lia);lia
 rcases Nat.le_total a b with z|z
 ·exact key a b z hb h
 ·exact (key b a z ha h.symm).symm
theorem LZ {x y:Nat}(hx:x<2 ^ k)(hy:y<2 ^ k):∃n,n<2 ^ k/\wA (2 ^ k) x n=y:=by
 refine Ϲ λhn=>?_;have nd:((ê (2 ^ k)).map (wA (2 ^ k) x)).Nodup:=by
  unfold List.Nodup;rw[Ţ];refine ϻ (λ{a b} ha hb Ge e=>?_) ς;exact Ge (LY hx (Č.mp ha) (Č.mp hb) e)
 have:=adj
  (Ť.mpr ⟨λh=>by
   obtain⟨n,h1,h2⟩:=á.mp h;exact hn ⟨n,Č.mp h1,h2⟩,nd⟩)
  (λz hz=>by
   rcases à.mp hz with e|hz
   ·rw[e];exact Č.mpr hy
   ·obtain⟨n,_,rfl⟩:=á.mp hz;exact Č.mpr (HD hx n))
 rw[Ò,Æ] at this;lia
noncomputable def fB (mask:Nat):Nat->Nat×Nat->Nat×Nat
 |0,p=>p
 |n+1,p=>fB mask n (leap mask p.1 p.2)
theorem wB (mask m n:Nat)(p:Nat×Nat):fB mask (m+n) p=fB mask n (fB mask m p):=by
 induction m generalizing p with
 |zero=>rw[Ġ];rfl
 |succ m ih=>rw[Nat.succ_add];exact ih _
theorem wC (mask:Nat):∀(n i q:Nat),(fB mask n (i,q)).2=q / 32 ^ n
 |0,i,q=>by simp[fB]
 |n+1,i,q=>by
  show (fB mask n _).2=_;unfold leap;rw[wC,Nat.div_div_eq_div_mul,Ņ,Ũ 32]
theorem zC (mask:Nat):∀(n i q:Nat),i<=mask->(fB mask n (i,q)).1<=mask
 |0,i,q,h=>h
 |n+1,i,q,h=>zC mask n _ _ (ſ (Ň _ (ũ _)))
theorem tR (mask:Nat):∀(n i:Nat),fB mask n (i,0)=(wA (mask+1) i n,0)
 |0,i=>rfl
 |n+1,i=>by
  rw[Nat.add_comm n 1,wB];show fB mask n (leap mask i 0)=_;rw[show leap mask i 0=(wA (mask+1) i 1,0) by rfl,tR,xJ]
theorem wD (hm:mask+1=2 ^ k){q y:Nat}(hi:i<=mask)(hq:q<2 ^ 64)(hy:y<=mask):∃n,n<mask+14/\(fB mask n (i,q)).1=y:=by
 have z:(fB mask 13 (i,q)).2=0:=by
  rw[wC];exact Nat.div_eq_of_lt (ύ hq (by decide))
 have e:fB mask 13 (i,q)=((fB mask 13 (i,q)).1,0):=by rw[<-z]
 obtain⟨n,h1,h2⟩:=LZ (y:=y) (by rw[<-hm];exact Nat.lt_succ_of_le (zC mask 13 i q hi)) (by lia);refine⟨13+n,by lia,?_⟩;rw[wB,e,tR,hm];exact h2
end Hc.Sx
namespace Hc.Sx
open PySem.SetTable
def TC (xs:Array Nat):Prop:=∀i j (hi:i<xs.size) (hj:j<xs.size),i<j->xs[i]<xs[j]
theorem tT {xs:Array Nat}{j:Nat}(hr:TC xs):∀(cJ lo hi:Nat),lo<=hi->hi<=xs.size->hi-lo<=cJ->(∀i (h:i<xs.size),i<lo->xs[i]<j)->(∀i (h:i<xs.size),hi<=i->j<=xs[i])->
  (∀i (h:i<xs.size),i<below.go xs j cJ lo hi->xs[i]<j)/\(∀i (h:i<xs.size),below.go xs j cJ lo hi<=i->j<=xs[i])/\below.go xs j cJ lo hi<=xs.size
 |0,lo,hi,h1,h2,h3,a,b=>by
  have:lo=hi:=by lia
  subst this;exact⟨a,b,h2⟩
 |cJ+1,lo,hi,h1,h2,h3,a,b=>by
  unfold below.go;by_cases c:lo<hi
  ·rw[hV c];dsimp only;have hm:(lo+hi) / 2<xs.size:=by lia
   have hd:xs.getD ((lo+hi) / 2) j=xs[(lo+hi) / 2]:=by simp[hm]
   rw[hd];by_cases c2:xs[(lo+hi) / 2]<j
   ·rw[hV c2];refine tT hr cJ _ hi (by lia) h2 (by (simp at *;lia)) (λi h Gq=>?_) b;rcases ņ i _ with z|z
    ·exact ύ (hr _ _ h hm z) c2
    ·have:i=(lo+hi) / 2:=by lia
     subst this;exact c2
   ·rw[hU c2];refine tT hr cJ lo _ (by lia) (by lia) (by (simp at *;lia)) a (λi h Gq=>?_);rcases ņ _ i with z|z
    ·have:=hr _ _ hm h z;(simp at *;lia)
    grind
  ·rw[hU c];have:lo=hi:=by lia
   subst this;exact⟨a,b,h2⟩
theorem og {xs:Array Nat}(hr:TC xs):(∀i (h:i<xs.size),i<below xs j->xs[i]<j)/\(∀i (h:i<xs.size),below xs j<=i->j<=xs[i])/\below xs j<=xs.size:=
 tT hr _ _ _ (Ħ _) (Ð _) (by lia) (λi _ h=>by lia) (λi h h'=>by lia)
theorem HG {xs:Array Nat}(hr:TC xs)(h:xs[i]? = J j):below xs j=i:=by
 obtain⟨hi,e⟩:=Ū.mp h;obtain⟨a,b,c⟩:=og (j:=j) hr;rcases afB (below xs j) i with z|z|z
 ·have h1:=b _ (by lia) (Ð _);have h2:=hr _ _ (by lia) hi z;lia
 ·exact z
 ·have:=a i hi z;lia
variable {V:Type}
structure vG (t:Į)(es:Array (Int×V))(C:Nat->Option (Int×V)):Prop where
 ris:TC t.place
 sz:t.place.size=es.size
 dum:t.dummies=#[]
 pow:∃k,t.mask+1=2 ^ k
 room:es.size<=t.mask
 top:∀(i j:Nat),t.place[i]? = J j->j<=t.mask
 con:∀(j:Nat) (e:Int×V),C j=J e↔∃i:Nat,t.place[i]? = J j/\es[i]? = J e
section
variable {es:Array (Int×V)}{C:Nat->Option (Int×V)}
theorem zD {xs:Array Nat}(h:xs=#[])(j:Nat):has xs j=Y:=by subst h;rfl
theorem vG.live (T:vG t es C){e:Int×V}(h:C j=J e):∃i,t.slot j=.live i/\es[i]? = J e/\t.place[i]? = J j:=by
 obtain⟨i,h1,h2⟩:=(T.con j e).mp h;refine⟨i,?_,h2,h1⟩;unfold SetTable.slot;dsimp only;rw[HG T.ris h1,h1];simp
theorem vG.empty (T:vG t es C)(h:C j=Z):t.slot j=.empty:=by
 unfold SetTable.slot;dsimp only;have n:(t.place[below t.place j]? == J j)=Y:=by
  rw[Α];intro c;have c:=by simpa using c
  have hi:=(Ū.mp c).1;have O6:below t.place j<es.size:=by rw[<-T.sz];exact hi
  have:=ħ O6;rw[(T.con j _).mpr ⟨_,c,this⟩] at h;cases h
 rw[n,zD T.dum];rfl
theorem vG.free (T:vG t es C):∃y,y<=t.mask/\C y=Z:=by
 refine Ϲ λhn=>?_;have hs:=T.sz;have hr:=T.room;have:=adj (l₁:=ê (t.mask+1)) (l₂:=t.place.toList) ς (λy hy=>by
  have hy:=Č.mp hy;cases e:C y with
  |none=>exact absurd ⟨y,by lia,e⟩ hn
  |some v=>
   obtain⟨i,h1,_⟩:=(T.con y v).mp e;have:=Array.mem_of_getElem? h1;simpa using this)
 rw[ĝ,í] at this;lia
end
noncomputable def adv (mask:Nat)(p:Probe):Probe:=
 if p.more>0 then {p with j:=p.j+1,more:=p.more-1} else
 {p with j:=(leap mask p.i p.perturb).1,more:=runEnd mask (leap mask p.i p.perturb).1-(leap mask p.i p.perturb).1,i:=(leap mask p.i p.perturb).1,perturb:=(leap mask p.i p.perturb).2}
def advs (mask:Nat):Nat->Probe->Probe
 |0,p=>p
 |n+1,p=>advs mask n (adv mask p)
theorem iw (mask m n:Nat)(p:Probe):advs mask (m+n) p=advs mask n (advs mask m p):=by
 induction m generalizing p with
 |zero=>rw[Ġ];rfl
 |succ m ih=>rw[Nat.succ_add];exact ih _
def wF (mask n:Nat)(p:Probe):advs mask (n+1) p=adv mask (advs mask n p):=by rw[iw];rfl
structure kM (mask:Nat)(p:Probe):Prop where
 i:p.i<=mask
 q:p.perturb<2 ^ 64
 m:p.more<=9
 d:p.dummy=Z
theorem pN (mask i:Nat):runEnd mask i-i<=9:=by unfold runEnd;split<;>lia
theorem kM.adv {p:Probe}(h:kM mask p):kM mask (adv mask p):=by
 unfold Hc.Sx.adv;split
 ·exact⟨h.i,h.q,by have:=h.m;(simp;lia),h.d⟩
 ·refine⟨ſ (Ň _ (ũ _)),?_,pN _ _,h.d⟩;exact γ (Nat.div_le_self _ _) h.q
theorem kM.advs {mask:Nat}:∀(n:Nat) {p:Probe},kM mask p->kM mask (advs mask n p)
 |0,_,h=>h
 |n+1,_,h=>kM.advs n h.adv
theorem Dl (h:Int):bits h<2 ^ 64:=by
 unfold bits;(simp;lia)
def kM.start (t:Į)(h:Int):kM t.mask (t.probeStart h):=
 ⟨ſ (Ň _ (ũ _)),Dl h,pN _ _,rfl⟩
theorem tU {mask:Nat}:∀(n:Nat) {p:Probe},p.more=n->(advs mask (n+1) p).j=(leap mask p.i p.perturb).1/\(advs mask (n+1) p).i=(leap mask p.i p.perturb).1/\(advs mask (n+1) p).perturb=(leap mask p.i p.perturb).2/\(advs mask (n+1) p).more<=9
 |0,p,e=>by
  show (adv mask p).j=_/\(adv mask p).i=_/\(adv mask p).perturb=_/\(adv mask p).more<=9;unfold adv;rw[hU (by lia)];exact⟨rfl,rfl,rfl,pN _ _⟩
 |n+1,p,e=>by
  have:=tU (mask:=mask) n (p:=adv mask p) (by simp_all[adv,hV]);have e1:(adv mask p).i=p.i/\(adv mask p).perturb=p.perturb:=by unfold adv;rw[hV (by lia)];exact⟨rfl,rfl⟩
  rw[e1.1,e1.2] at this;exact this
theorem qp {mask:Nat}:∀(n:Nat) {p:Probe},kM mask p->∃m,m<=10*(n+1)/\(advs mask m p).j=(fB mask (n+1) (p.i,p.perturb)).1
 |0,p,h=>by
  obtain⟨a,_⟩:=tU p.more rfl;exact⟨p.more+1,by have:=h.m;lia,a⟩
 |n+1,p,h=>by
  obtain⟨a,b,c,d⟩:=tU p.more rfl;obtain⟨m,h1,h2⟩:=qp n (kM.advs _ h);refine⟨p.more+1+m,by have:=h.m;lia,?_⟩;rw[iw,h2,b,c];rfl
theorem wG (hm:mask+1=2 ^ k){p:Probe}(h:kM mask p){y:Nat}(hy:y<=mask):∃m,m<10*turns mask/\(advs mask m p).j=y:=by
 obtain⟨n,h1,h2⟩:=wD hm (ſ (Ň _ (ũ _))) (γ (Nat.div_le_self _ _) h.q) hy;obtain⟨m,h3,h4⟩:=qp n h;refine⟨m,by unfold turns;lia,?_⟩;rw[h4];exact h2
section
variable {es:Array (Int×V)}{C:Nat->Option (Int×V)}{hashAt:Nat->Int}
theorem Dm (T:vG t es C)(hh:∀i e,es[i]? = J e->hashAt i=e.1)(h:Int):∀(m cJ:Nat) (p:Probe),kM t.mask p->m<cJ->C (advs t.mask m p).j=Z->
    ∃m',m'<=m/\(∀a,a<m'->∃e,C (advs t.mask a p).j=J e/\e.1≠h)/\
      ((C (advs t.mask m' p).j=Z/\probe.go t hashAt h cJ p=J (.empty (advs t.mask m' p).j Z)) \/
       ∃e i,C (advs t.mask m' p).j=J e/\e.1=h/\es[i]? = J e/\t.place[i]? = J (advs t.mask m' p).j/\probe.go t hashAt h cJ p=J (.candidate (advs t.mask m' p).j i (advs t.mask (m'+1) p)))
  |m,0,p,_,hf,_=>by lia
  |m,cJ+1,p,hp,hf,he=>by
    unfold probe.go;cases c:C p.j with
    |none=>
      refine⟨0,Ħ _,λa ha=>by lia,.inl ⟨c,?_⟩⟩;rw[T.empty c];rw[hp.d];rfl
    |some e=>
      obtain⟨i,h1,h2,h3⟩:=T.live c;rw[h1];dsimp only;rw[hh i e h2];by_cases q:e.1=h
      · refine⟨0,Ħ _,λa ha=>by lia,.inr ⟨e,i,c,q,h2,h3,?_⟩⟩;rw[hV (by rw[q];simp)];rfl
      · rw[hU (by simpa using q)];cases m with
        |zero=>rw[show advs t.mask 0 p=p from rfl,c] at he;cases he
        |succ m=>
          obtain⟨m',g1,g2,g3⟩:=Dm T hh h m cJ _ hp.adv (by simp_all) he;refine⟨m'+1,by lia,λa ha=>?_,g3⟩;cases a with
          |zero=>exact⟨e,c,q⟩
          |succ a=>exact g2 a (by simp_all)
theorem BR (T:vG t es C)(hh:∀i e,es[i]? = J e->hashAt i=e.1)(h:Int){p:Probe}(hp:kM t.mask p) :
    ∃m',(∀a,a<m'->∃e,C (advs t.mask a p).j=J e/\e.1≠h)/\
      ((C (advs t.mask m' p).j=Z/\t.probe hashAt h p=J (.empty (advs t.mask m' p).j Z)) \/
       ∃e i,C (advs t.mask m' p).j=J e/\e.1=h/\es[i]? = J e/\t.place[i]? = J (advs t.mask m' p).j/\t.probe hashAt h p=J (.candidate (advs t.mask m' p).j i (advs t.mask (m'+1) p))):=by
  obtain⟨y,hy,hc⟩:=T.free;obtain⟨k,hk⟩:=T.pow;obtain⟨m,h1,h2⟩:=wG hk hp hy;obtain⟨m',_,g2,g3⟩:=Dm T hh h m _ p hp h1 (by rw[h2];exact hc);exact⟨m',g2,g3⟩
end
end Hc.Sx
namespace Hc.Sx
open PySem.SetTable
def ja {α:Type}(xs:Array α)(p:Nat)(x:α):(insertAt xs p x).toList=xs.toList.take p++x::xs.toList.drop p:=by
 unfold insertAt;simp[Ϯ];exact Ξ (by simp)
theorem cb {α:Type}{xs:Array α}{p:Nat}{x:α}(h:p<=xs.size)(i:Nat):(insertAt xs p x)[i]? = if i<p then xs[i]? else if i=p then J x else xs[i-1]? := by
 rw[<-Ĕ,ja];grind
theorem fV {α:Type}{xs:Array α}{p:Nat}{x:α}(h:p<=xs.size):(insertAt xs p x).size=xs.size+1:=by
 rw[<-í,ja,Þ,Ò,ÿ,ē,í];lia
variable {V:Type}
noncomputable def Sr (C:Nat->Option (Int×V))(j:Nat)(e:Int×V):Nat->Option (Int×V):=λy=>if y=j then J e else C y
def Nv (mask:Nat)(st:Int->Probe)(C:Nat->Option (Int×V)):Prop:=∀(j:Nat) (e:Int×V),C j=J e->∃n,(advs mask n (st e.1)).j=j/\∀m,m<n->∃e',C (advs mask m (st e.1)).j=J e'
section
variable {es:Array (Int×V)}{C:Nat->Option (Int×V)}
theorem vG.put (T:vG t es C){e:Int×V}(hj:j<=t.mask)(hc:C j=Z)(hr:es.size+1<=t.mask) :
  vG (t.put j).1 (insertAt es (t.put j).2 e) (Sr C j e)/\(t.put j).1.mask=t.mask/\(t.put j).1.plain=t.plain/\(t.put j).1.led=t.led/\(t.put j).1.moves=t.moves/\(t.put j).1.finger=t.finger:=by
 obtain⟨a,b,c⟩:=og T.ris;have nz:∀i,t.place[i]? ≠ J j:=λi h=>by
  have hi:=(Ū.mp h).1;have O6:i<es.size:=by rw[<-T.sz];exact hi
  rw[(T.con j es[i]).mpr ⟨i,h,ħ O6⟩] at hc;cases hc
 have ep:(t.put j).1={t with place:=insertAt t.place (below t.place j) j}:=by
  unfold SetTable.put;rw[zD T.dum];rfl
 have e2:(t.put j).2=below t.place j:=rfl;have c2:below t.place j<=es.size:=by rw[<-T.sz];exact c
 rw[ep,e2];refine⟨⟨?_,?_,T.dum,T.pow,?_,?_,?_⟩,rfl,rfl,rfl,rfl,rfl⟩
 ·intro i i' hi Gq lt;have g:=λx=>cb (x:=j) c x;have e1:=g i;have CF:=g i';rw[ħ hi] at e1;rw[ħ Gq] at CF;rw[fV c] at hi Gq;have at_:∀x (hx:x<t.place.size),t.place[x]? = J _:=λx hx=>ħ hx;have Zy:∀x (hx:x<t.place.size),t.place[x]≠j:=λx hx z=>nz x (by rw[at_ x hx,z]);by_cases q:i<below t.place j
  ·rw[hV q,at_ i (by grind)] at e1;have e1:=ó e1;rw[e1];by_cases q':i'<below t.place j
   ·rw[hV q',at_ i' (by grind)] at CF;rw[ó CF];exact T.ris _ _ _ _ lt
   ·rw[hU q'] at CF;by_cases r':i'=below t.place j
    ·rw[hV r'] at CF;rw[ó CF];exact a i (by grind) q
    ·rw[hU r',at_ (i' - 1) (by grind)] at CF;rw[ó CF];have h1:=a i (by grind) q;have h2:=b (i' - 1) (by lia) (by (simp at *;lia));lia
  ·rw[hU q] at e1;rw[hU (by (simp at *;lia)),hU (by (simp at *;lia)),at_ (i' - 1) (by grind)] at CF;rw[ó CF];by_cases r:i=below t.place j
   ·grind
   ·rw[hU r,at_ (i-1) (by grind)] at e1;rw[ó e1];exact T.ris _ _ _ _ (by lia)
 ·rw[fV c,fV c2,T.sz]
 ·rw[fV c2];exact hr
 ·intro i y h;rw[cb c] at h;split at h
  ·exact T.top i y h
  ·split at h
   ·cases h;exact hj
   ·exact T.top _ y h
 ·intro y v;unfold Sr;constructor
  ·intro h;split at h
   ·rename_i q;cases h;subst q;refine⟨below t.place y,?_,?_⟩
    ·rw[cb c,hU (ı _),hV rfl]
    ·rw[cb c2,hU (ı _),hV rfl]
   ·obtain⟨i,h1,h2⟩:=(T.con y v).mp h;by_cases q:i<below t.place j
    ·exact⟨i,by rw[cb c,hV q];exact h1,by rw[cb c2,hV q];exact h2⟩
    ·exact⟨i+1,by rw[cb c,hU (by (simp at *;lia)),hU (by lia)];exact h1,by rw[cb c2,hU (by (simp at *;lia)),hU (by lia)];exact h2⟩
  ·rintro⟨i,h1,h2⟩;rw[cb c] at h1;rw[cb c2] at h2;by_cases q:i<below t.place j
   ·rw[hV q] at h1 h2;rw[hU (λz=>nz i (by rw[h1,z]))];exact (T.con y v).mpr ⟨i,h1,h2⟩
   ·rw[hU q] at h1 h2;by_cases r:i=below t.place j
    ·rw[hV r] at h1 h2;rw[hV (ó h1).symm];exact h2
    ·rw[hU r] at h1 h2;rw[hU (λz=>nz (i-1) (by rw[h1,z]))];exact (T.con y v).mpr ⟨_,h1,h2⟩
theorem Nv.up {st:Int->Probe}(P:Nv mask st C){n:Nat}{e:Int×V}(hb:∀m,m<n->∃e',C (advs mask m (st e.1)).j=J e')(hc:C (advs mask n (st e.1)).j=Z):Nv mask st (Sr C (advs mask n (st e.1)).j e):=by
 have KD:∀y,(∃e',C y=J e')->∃e',Sr C (advs mask n (st e.1)).j e y=J e':=λy h00=>by
  obtain⟨e',h⟩:=h00;unfold Sr;split
  ·exact⟨_,rfl⟩
  ·exact⟨e',h⟩
 intro j v h;unfold Sr at h;split at h
 ·rename_i q;cases h;exact⟨n,q.symm,λm hm=>KD _ (hb m hm)⟩
 ·obtain⟨n',h1,h2⟩:=P j v h;exact⟨n',h1,λm hm=>KD _ (h2 m hm)⟩
theorem Nv.met {st:Int->Probe}(P:Nv mask st C){h:Int}{n:Nat}(hc:C (advs mask n (st h)).j=Z){e:Int×V}(he:C j=J e)(hh:e.1=h):∃m,m<n/\(advs mask m (st h)).j=j:=by
 obtain⟨m,h1,h2⟩:=P j e he;rw[hh] at h1 h2;rcases afB m n with z|z|z
 ·exact⟨m,z,h1⟩
 ·lia
 ·obtain⟨e',q⟩:=h2 n z;rw[q] at hc;cases hc
end
noncomputable def ô (mask:Nat)(h:Int):Probe:={j:=bits h % (mask+1),more:=runEnd mask (bits h % (mask+1))-bits h % (mask+1),i:=bits h % (mask+1),perturb:=bits h,dummy:=Z}
theorem pO {mask:Nat}:∀(k:Nat) {p:Probe},k<=p.more->(advs mask k p).j=p.j+k/\(advs mask k p).more=p.more-k/\(advs mask k p).i=p.i/\(advs mask k p).perturb=p.perturb/\(advs mask k p).dummy=p.dummy
 |0,p,_=>⟨rfl,rfl,rfl,rfl,rfl⟩
 |k+1,p,h=>by
  obtain⟨a,b,c,d,e⟩:=pO k (p:=adv mask p) (by unfold adv;rw[hV (by lia)];dsimp only;lia);have e1:(adv mask p).j=p.j+1/\(adv mask p).more=p.more-1/\(adv mask p).i=p.i/\(adv mask p).perturb=p.perturb/\(adv mask p).dummy=p.dummy:=by unfold adv;rw[hV (by lia)];exact⟨rfl,rfl,rfl,rfl,rfl⟩
  refine⟨?_,?_,c.trans e1.2.2.1,d.trans e1.2.2.2.1,e.trans e1.2.2.2.2⟩
  ·show (advs mask k _).j=_;lia
  ·show (advs mask k _).more=_;lia
theorem wH {mask:Nat}{owner:Array (Option Nat)}(hs:owner.size=mask+1):∀(n cJ:Nat) (p:Probe),p.j=p.i->p.more=runEnd mask p.i-p.i->p.i<=mask->n<cJ->owner[(fB mask n (p.i,p.perturb)).1]? = J Z->
  ∃m,layClean.free mask owner cJ p.i p.perturb=J (advs mask m p).j/\owner[(advs mask m p).j]? = J Z/\∀a,a<m->∃i,owner[(advs mask a p).j]? = J (J i)
 |n,0,p,_,_,_,hf,_=>by lia
 |n,cJ+1,p,hj,hm,hi,hf,hn=>by
  have re:runEnd mask p.i<=mask/\p.i<=runEnd mask p.i:=by unfold runEnd;split<;>lia
  have at_:∀a,a<=p.more->∃o,owner[p.i+a]? = J o:=λa ha=>⟨owner[p.i+a]'(by grind),ħ (by grind)⟩;have gd:∀a o,owner[p.i+a]? = J o->owner.getD (p.i+a) (J 0)=o:=λa o h=>by
   simp[*]
  unfold layClean.free;cases hq:(ê _).find? _ with
  |some k=>
   obtain⟨h1,as,bs,h2,h3⟩:=List.find?_eq_some_iff_append.mp hq;have hk:k<runEnd mask p.i+1-p.i:=Č.mp (by rw[h2];simp);have O7:k<=p.more:=by lia
   obtain⟨o,ho⟩:=at_ k O7;rw[gd k o ho] at h1;have on:o=Z:=by simp_all
   subst on;refine⟨k,?_,?_,λa ha=>?_⟩
   ·rw[(pO k O7).1,hj]
   ·rw[(pO k O7).1,hj];exact ho
   ·rw[(pO a (by grind)).1,hj];obtain⟨o,ho⟩:=at_ a (by grind);have am:=by
     have la:=by
      have e:(ê (runEnd mask p.i+1-p.i))[as.length]? = J k:=by rw[h2,Š (Ð _),afn];rfl
      have lt:=by
       have:=(ċ.mp e).1;simpa using this
      rw[ρ lt] at e;exact ó e
     have e:(ê (runEnd mask p.i+1-p.i))[a]? = J a:=ρ (by lia);rw[h2,Ŵ (by simp[*])] at e;exact į e
    have:=h3 a am;rw[gd a o ho] at this;cases o with
    |none=>simp at this
    |some x=>exact⟨x,ho⟩
  |none=>
   have all:=List.find?_eq_none.mp hq;have YE:∀a,a<=p.more->∃i,owner[p.i+a]? = J (J i):=λa ha=>by
    obtain⟨o,ho⟩:=at_ a ha;have:=all a (Č.mpr (by lia));rw[gd a o ho] at this;cases o with
    |none=>simp at this
    |some x=>exact⟨x,ho⟩
   cases n with
   |zero=>
    obtain⟨i,h⟩:=YE 0 (Ħ _);rw[show fB mask 0 _=(p.i,p.perturb) from rfl,<-Nat.add_zero p.i,h] at hn;cases hn
   |succ n=>
    obtain⟨a1,a2,a3,a4,a5⟩:=pO (mask:=mask) p.more (Ð _);have e1:advs mask (p.more+1) p={advs mask p.more p with j:=(leap mask p.i p.perturb).1,more:=runEnd mask (leap mask p.i p.perturb).1-(leap mask p.i p.perturb).1,i:=(leap mask p.i p.perturb).1,perturb:=(leap mask p.i p.perturb).2}:=by
     rw[wF];unfold adv;rw[hU (by lia),a3,a4]
    obtain⟨m,g1,g2,g3⟩:=wH hs n cJ (advs mask _ p) (by rw[e1]) (by rw[e1]) (by rw[e1];exact ſ (Ň _ (ũ _))) (by lia) (by rw[e1];exact hn);refine⟨p.more+1+m,?_,by rw[iw];exact g2,λa ha=>?_⟩
    ·rw[iw];rw[e1] at g1 |-;exact g1
    ·rcases ņ a (p.more+1) with z|z
     ·rw[(pO a (by grind)).1,hj];exact YE a (by grind)
     ·have:=g3 (a-(p.more+1)) (by lia);rw[<-iw,show p.more+1+(a-(p.more+1))=a by simp_all] at this;exact this
end Hc.Sx
namespace Hc.Sx
open PySem.SetTable
structure Nw (mask:Nat)(owner:Array (Option Nat))(k:Nat)(Hf:Nat->Int):Prop where
 sz:owner.size=mask+1
 ix:∀(j i:Nat),owner[j]? = J (J i)->i<k
 ex:∀i:Nat,i<k->∃j:Nat,owner[j]? = J (J i)
 un:∀(j j' i:Nat),owner[j]? = J (J i)->owner[j']? = J (J i)->j=j'
 pt:∀(j i:Nat),owner[j]? = J (J i)->∃n,(advs mask n (ô mask (Hf i))).j=j/\∀m,m<n->∃i':Nat,owner[(advs mask m (ô mask (Hf i))).j]? = J (J i')
section
variable {owner:Array (Option Nat)}{Hf:Nat->Int}
theorem Nw.free (O:Nw mask owner k Hf)(hk:k<=mask):∃y,y<=mask/\owner[y]? = J Z:=by
 refine Ϲ λhn=>?_;have Xv:∀y,y<mask+1->∃i,owner[y]? = J (J i):=λy hy=>by
  have h1:y<owner.size:=by rw[O.sz];exact hy
  cases e:owner[y] with
  |none=>exact absurd ⟨y,by lia,by rw[ħ h1,e]⟩ hn
  |some i=>exact⟨i,by rw[ħ h1,e]⟩
 have g:∀y,∃i,y<mask+1->owner[y]? = J (J i):=λy=>by
  by_cases h:y<mask+1
  ·obtain⟨i,e⟩:=Xv y h;exact⟨i,λ_=>e⟩
  ·exact⟨0,λz=>absurd z h⟩
 let f:=λy=>Classical.choose (g y)
 have hf:∀y,y<mask+1->owner[y]? = J (J (f y)):=λy=>Classical.choose_spec (g y);have:=adj (l₁:=(ê (mask+1)).map f) (by
  unfold List.Nodup;rw[Ţ];refine ϻ (λ{a b} ha hb Ge e=>?_) ς;have h1:=hf a (Č.mp ha);have h2:=hf b (Č.mp hb);rw[e] at h1;exact Ge (O.un _ _ _ h1 h2)) (λx hx=>by
  obtain⟨y,hy,rfl⟩:=á.mp hx;exact Č.mpr (O.ix y _ (hf y (Č.mp hy))))
 rw[Æ,ĝ,ĝ] at this;lia
theorem Nw.step (O:Nw mask owner k Hf)(hp:∃p,mask+1=2 ^ p)(hk:k<=mask):∃j,layClean.free mask owner (turns mask) (bits (Hf k) % (mask+1)) (bits (Hf k))=J j/\Nw mask (owner.setIfInBounds j (J k)) (k+1) Hf:=by
 obtain⟨y,hy,ho⟩:=O.free hk;obtain⟨p,hp⟩:=hp;have hi:bits (Hf k) % (mask+1)<=mask:=ſ (Ň _ (ũ _));obtain⟨n,h1,h2⟩:=wD hp hi (Dl _) hy;obtain⟨m,g1,g2,g3⟩:=wH O.sz n (turns mask) (ô mask (Hf k)) rfl rfl hi (by unfold turns;lia) (by
  show owner[(fB mask n (bits (Hf k) % (mask+1),bits (Hf k))).1]? = _;rw[h2];exact ho)
 refine⟨_,g1,?_⟩;have hj:=(Ū.mp g2).1;generalize ej:(advs mask m _).j=j at *;have gt:∀x,(owner.setIfInBounds j (J k))[x]? = if x=j then J (J k) else owner[x]? := λx=>by
  grind
 have KD:∀x:Nat,(∃i':Nat,owner[x]? = J (J i'))->∃i':Nat,(owner.setIfInBounds j (J k))[x]? = J (J i'):=λx h00=>by
  obtain⟨i',h⟩:=h00;rw[gt];split
  ·exact⟨k,rfl⟩
  ·exact⟨i',h⟩
 refine⟨by rw[Array.size_setIfInBounds];exact O.sz,λx i h=>?_,λi hi=>?_,λx x' i h h'=>?_,λx i h=>?_⟩
 ·rw[gt] at h;split at h
  ·cases h;lia
  ·have:=O.ix x i h;lia
 ·by_cases c:i=k
  ·exact⟨j,by rw[gt,hV rfl,c]⟩
  ·obtain⟨x,h⟩:=O.ex i (by lia);refine⟨x,?_⟩;rw[gt,hU (λz=>by rw[z,g2] at h;cases h)];exact h
 ·rw[gt] at h h';by_cases c:x=j
  ·by_cases c':x'=j
   ·rw[c,c']
   ·rw[hV c] at h;rw[hU c'] at h';cases h;have:=O.ix _ _ h';lia
  ·by_cases c':x'=j
   ·rw[hU c] at h;rw[hV c'] at h';cases h';have:=O.ix _ _ h;lia
   ·rw[hU c] at h;rw[hU c'] at h';exact O.un _ _ _ h h'
 ·rw[gt] at h;split at h
  ·rename_i c;cases h;exact⟨m,by rw[ej,c],λa ha=>KD _ (g3 a ha)⟩
  ·obtain⟨n,h1,h2⟩:=O.pt x i h;exact⟨n,h1,λa ha=>KD _ (h2 a ha)⟩
end
noncomputable def L0 (mask:Nat)(bH:Option (Array (Option Nat)×Nat))(h:Int):Option (Array (Option Nat)×Nat):=do
  let (owner,k) ←bH
  let j ←layClean.free mask owner (turns mask) (bits h % (mask+1)) (bits h)
  pure (owner.setIfInBounds j (J k),k+1)
theorem Dn {mask:Nat}{Hf:Nat->Int}(hp:∃p,mask+1=2 ^ p):∀(hs:List Int) (k:Nat) (owner:Array (Option Nat)),Nw mask owner k Hf->(∀i,i<hs.length->hs[i]? = J (Hf (k+i)))->k+hs.length<=mask->
  ∃owner',hs.foldl (L0 mask) (J (owner,k))=J (owner',k+hs.length)/\Nw mask owner' (k+hs.length) Hf
 | [],k,owner,O,_,_=>⟨owner,rfl,O⟩
 |h::hs,k,owner,O,he,hl=>by
  have e0:=by have:=he 0 (by simp);simpa using this
  rw[Ò] at hl;obtain⟨j,g1,g2⟩:=O.step hp (by lia);obtain⟨owner',f1,f2⟩:=Dn hp hs (k+1) _ g2 (λi hi=>by
   have:=he (i+1) (by rw[Ò];simp[*]);rw[ν] at this;rw[this];congr 2;lia) (by lia)
  refine⟨owner',?_,?_⟩
  ·rw[List.foldl_cons,show L0 mask _ h=J (owner.setIfInBounds j (J k),k+1) by unfold L0;rw[e0];simp[g1],f1,Ò];congr 2;lia
  ·rw[Ò,show k+(hs.length+1)=k+1+hs.length by lia];exact f2
theorem L1 (mask:Nat)(Hf:Nat->Int):Nw mask (Array.replicate (mask+1) Z) 0 Hf:=by
 have no:∀(j i:Nat),(Array.replicate (mask+1) (Z:Option Nat))[j]? ≠ J (J i):=λj i h=>by
  rw[Array.getElem?_replicate] at h;split at h<;>cases h
 exact⟨by simp,λj i h=>absurd h (no j i),λi h=>absurd h (Nat.not_lt_zero _),λj _ i h=>absurd h (no j i),λj i h=>absurd h (no j i)⟩
theorem jb {α β:Type}{f:α->Option β}:∀{l:List α},(∀x∈l,∃y,f x=J y)->∀n:Nat,(l.filterMap f)[n]? = (l[n]?).bind f
 | [],_,n=>by simp
 |x::l,h,n=>by
  obtain⟨y,hy⟩:=h x Ú;rw[afC hy];cases n with
  |zero=>simp[hy]
  |succ n=>simpa using jb (λz hz=>h z (Ý _ hz)) n
theorem mm {α β:Type}{f:α->Option β}:∀{l:List α},(∀x∈l,∃y,f x=J y)->(l.filterMap f).length=l.length
 | [],_=>rfl
 |x::l,h=>by
  obtain⟨y,hy⟩:=h x Ú;rw[afC hy,Ò,Ò,mm λz hz=>h z (Ý _ hz)]
variable {V:Type}
theorem oh {finger moves:Nat}{led plain:Bool}{es:Array (Int×V)}(hp:∃p,mask+1=2 ^ p)(hl:es.size<=mask):∃(t:Į) (order:Array Nat) (C:Nat->Option (Int×V)),laid mask finger moves led plain (es.map (·.1))=J (t,order)/\
  vG t (order.filterMap (es[·]?)) C/\Nv mask (ô mask) C/\(order.filterMap (es[·]?)).size=es.size/\t.mask=mask/\t.finger=finger/\t.moves=moves/\t.led=led/\t.plain=plain/\
  (order.filterMap (es[·]?)).toList.Perm es.toList:=by
 obtain⟨owner,f1,O⟩:=Dn (Hf:=λi=>(es[i]?.map (·.1)).getD 0) hp (es.map (·.1)).toList 0 _ (L1 mask _) (λi hi=>by
  have O6:=by simpa using hi
  simp[*]) (by simpa using hl)
 rw[Ġ,í,Array.size_map] at f1 O;have lc:layClean mask (es.map (·.1))=J owner:=by
  unfold layClean;rw[<-Array.foldl_toList];show ((es.map (·.1)).toList.foldl (L0 mask) _).map (·.1)=J owner;rw[f1];rfl
 let live:=(ê (mask+1)).filterMap λj=>(owner.getD j Z).map (j,·)
 have gd:∀j i,owner.getD j Z=J i↔owner[j]? = J (J i):=λj i=>by
  by_cases h:j<owner.size
  ·simp[h]
  ·simp[h]
 have ml:∀j i,(j,i)∈live↔owner[j]? = J (J i):=λj i=>by
  rw[afh];constructor
  ·simp_all
  ·intro h;refine⟨j,Č.mpr ?_,by rw[(gd j i).mpr h];rfl⟩;have:=(Ū.mp h).1;rw[O.sz] at this;exact this
 have pw:live.Pairwise (λa b=>a.1<b.1/\a.2≠b.2):=by
  rw[List.pairwise_filterMap];refine List.pairwise_lt_range.imp λ{a b} Ge x hx y hy=>?_;cases e:owner.getD a Z with
  |none=>rw[e] at hx;cases hx
  |some i=>cases e':owner.getD b Z with
   |none=>rw[e'] at hy;cases hy
   |some i'=>
    rw[e] at hx;rw[e'] at hy;cases hx;cases hy;refine⟨Ge,λz=>?_⟩;subst z;have:=O.un _ _ _ ((gd _ _).mp e) ((gd _ _).mp e');lia
 have YF:=by
  have nd:(live.map (·.2)).Nodup:=by
   unfold List.Nodup;rw[Ţ];exact pw.imp λh=>h.2
  exact (List.perm_ext_iff_of_nodup nd ς).mpr λi=>by
   rw[á,Č];constructor
   ·rintro⟨⟨j,i'⟩,h,rfl⟩;exact O.ix j i' ((ml j i').mp h)
   ·intro h;obtain⟨j,e⟩:=O.ex i h;exact⟨(j,i),(ml j i).mpr e,rfl⟩
 have len:=by
  have:=YF.length_eq
  rwa [Æ,ĝ] at this
 have Zz:∀x∈live,∃y,es[x.2]? = J y:=λx hx=>by
  have:=O.ix x.1 x.2 ((ml x.1 x.2).mp hx);exact⟨es[x.2],ħ this⟩
 have Vc:∀x∈live.map (·.2),∃y,es[x]? = J y:=λx hx=>by
  obtain⟨z,hz,rfl⟩:=á.mp hx;exact Zz z hz
 have Xw:((live.map (·.2)).toArray.filterMap (es[·]?)).toList=(live.map (·.2)).filterMap (es[·]?):=by simp
 have YG:∀n ,((live.map (·.2)).toArray.filterMap (es[·]?))[n]? = (live[n]?).bind _:=λn=>by
  rw[<-Ĕ,Xw,jb Vc,ă];cases live[n]? <;> rfl
 have Xx:∀n:Nat,(live.map (·.1)).toArray[n]? = (live[n]?).map (·.1):=λn=>by
  simp
 let C:Nat->Option _:=λj=>(owner.getD j Z).bind (es[·]?)
 have hC:∀j e,C j=J e↔∃i,owner[j]? = J (J i)/\es[i]? = J e:=λj e=>by
  show (owner.getD j Z).bind _=J e↔_;cases q:owner.getD j Z with
  |none=>
   grind
  |some i=>
   constructor
   ·intro h;exact⟨i,(gd j i).mp q,h⟩
   ·rintro⟨i',h,h2⟩;rw[(gd j i').mpr h] at q;cases q;exact h2
 have Nc:((live.map (·.2)).toArray.filterMap (es[·]?)).size=es.size:=by
  rw[<-í,Xw,mm Vc,Æ,len]
 refine⟨{mask,place:=(live.map (·.1)).toArray,dummies:=#[],finger,led,moves,plain},(live.map (·.2)).toArray,C,?_,⟨?_,?_,rfl,hp,?_,?_,?_⟩,?_,Nc,rfl,rfl,rfl,rfl,rfl,?_⟩
 ·unfold laid;rw[lc];rfl
 ·intro i j hi hj lt;have g:=pw;rw[ϝ] at g;have Gq:=by simpa using hi
  have ZC:=by simpa using hj
  have:=(g i j Gq ZC lt).1;simpa using this
 ·rw[Nc];simp[len]
 ·rw[Nc];exact hl
 ·intro i j h;rw[Xx] at h;cases e:live[i]? with
  |none=>rw[e] at h;cases h
  |some x=>
   rw[e] at h;cases h;have:=(Ū.mp ((ml x.1 x.2).mp (į e))).1;rw[O.sz] at this;exact ſ this
 ·intro j e;rw[hC];constructor
  ·rintro⟨i,h1,h2⟩;obtain⟨n,hn⟩:=List.mem_iff_getElem?.mp ((ml j i).mpr h1);exact⟨n,by rw[Xx,hn];rfl,by rw[YG,hn];exact h2⟩
  ·rintro⟨n,h1,h2⟩;rw[Xx] at h1;rw[YG] at h2;cases q:live[n]? with
   |none=>rw[q] at h1;cases h1
   |some x=>
    rw[q] at h1 h2;cases h1;exact⟨x.2,(ml x.1 x.2).mp (į q),h2⟩
 ·intro j e h;obtain⟨i,h1,h2⟩:=(hC j e).mp h;obtain⟨n,g1,g2⟩:=O.pt j i h1;have hf:(es[i]?.map (·.1)).getD 0=e.1:=by rw[h2];rfl
  rw[hf] at g1 g2;refine⟨n,g1,λm hm=>?_⟩;obtain⟨i',h3⟩:=g2 m hm;have:=O.ix _ _ h3;exact⟨es[i'],(hC _ _).mpr ⟨i',h3,ħ this⟩⟩
 ·rw[Xw];refine (YF.filterMap _).trans ?_;have e:(ê es.size).filterMap (es[·]?)=es.toList:=by
   refine afD λn=>?_;rw[jb (λx hx=>⟨es[x]'(Č.mp hx),ħ _⟩)];by_cases h:n<es.size
   ·rw[ρ h];simp
   ·rw[Ϙ.mpr (by simpa using h),Ϙ.mpr (by simpa using h)];rfl
  rw[e]
end Hc.Sx
namespace Hc.Sx
open PySem.SetTable
theorem zE:∀(cJ size n:Nat),(∃p,size=2 ^ p)->8<=size->(size<=8\/size<=2*n)->n<size*2 ^ cJ->(∃p,sizeAbove.go n cJ size=2 ^ p)/\n<sizeAbove.go n cJ size/\8<=sizeAbove.go n cJ size/\(sizeAbove.go n cJ size<=8\/sizeAbove.go n cJ size<=2*n)
 |0,size,n,hp,h8,hb,hn=>by
  unfold sizeAbove.go;exact⟨hp,by simpa using hn,h8,hb⟩
 |cJ+1,size,n,⟨p,hp⟩,h8,hb,hn=>by
  unfold sizeAbove.go;by_cases c:size<=n
  ·rw[hV c];exact zE cJ _ n ⟨p+1,by rw[hp,Ņ]⟩ (by lia) (.inr (by lia)) (by rw[Ņ,Ũ _ 2,<-Ž] at hn;exact hn)
  ·rw[hU c];exact⟨⟨p,hp⟩,by simp_all,h8,hb⟩
def HH {n:Nat}(h:n<2 ^ 60):(∃p,sizeAbove n=2 ^ p)/\n<sizeAbove n/\8<=sizeAbove n/\(sizeAbove n<=8\/sizeAbove n<=2*n):=
 zE 64 8 n ⟨3,rfl⟩ (Ð _) (.inl (Ð _)) (ύ h (by decide))
structure qr {prog:ø}{w:ß}{K:Type}[DecidableEq K](knd:Ĺ prog w K):Prop where
 cls:∀{A:Ñ} {E:F->Ã->Prop} {s:Ã} {k:K} {a:G} {Q:Bool->Ã->Prop},knd.is s.heap k a->Q Y s->Å (Ä prog w) A (ofAClassStatement 8 (.ref a)) Q E s
 byv:∀{A:Ñ} {E:F->Ã->Prop} {s:Ã} {k:K} {a:G} {Q:Bool->Ã->Prop},knd.is s.heap k a->Q M s->Å (Ä prog w) A (hashByValue 8 (.ref a)) Q E s
 kept:∀{h h':Í} {k:K} {a d:G} {o:Obj} {es:Array (Int×F)} {ep:Nat} {t:Į},knd.is h k a->h.get? d=J o->o.data=.set es ep t->œ d h h'->knd.is h' k a
section
variable {K:Type}[DecidableEq K]{knd:Ĺ prog w K}
noncomputable def WB (knd:Ĺ prog w K)(x:K×G):Int×F:=(knd.hash x.1,.ref x.2)
structure HS (knd:Ĺ prog w K)(h:Í)(xs:List (K×G))(es:Array (Int×F))(t:Į)(C:Nat->Option (Int×F)):Prop where
 tab:vG t es C
 pth:Nv t.mask (ô t.mask) C
 pl:t.plain=M
 lo:7<=t.mask
 hi:t.mask<=8191
 few:es.size*5<t.mask*3
 per:es.toList.Perm (xs.map (WB knd))
 keys:∀x∈xs,knd.is h x.1 x.2
 nd:(xs.map (·.1)).Nodup
def mW (knd:Ĺ prog w K)(byText:Bool)(h:Í)(a:G)(xs:List (K×G)):Prop:=
 ∃o es ep t C,h.get? a=J o/\o.ExactSet/\o.data=.set es ep t/\HS knd h xs es t C/\(byText=M\/t.led=M)
variable {A:Ñ}
def HS.fits {xs:List (K×G)}{es:Array (Int×F)}{C:Nat->Option (Int×F)}(S:HS knd h xs es t C):t.fits es.size=M:=by
 unfold SetTable.fits SetTable.fill;rw[S.tab.sz,S.tab.dum];simp;exact S.tab.room
theorem HS.stays {xs:List (K×G)}{es:Array (Int×F)}{C:Nat->Option (Int×F)}(S:HS knd h xs es t C):t.gaveWay=Y:=by
 unfold SetTable.gaveWay;obtain⟨p,hp⟩:=S.tab.pow;have:=S.lo;cases p with
 |zero=>lia
 |succ p=>simp;lia
theorem HS.entry {xs:List (K×G)}{es:Array (Int×F)}{C:Nat->Option (Int×F)}(S:HS knd h xs es t C){e:Int×F}(he:e∈es.toList):∃k b,(k,b)∈xs/\e=(knd.hash k,.ref b)/\knd.is h k b:=by
 obtain⟨⟨k,b⟩,hx,rfl⟩:=á.mp (S.per.mem_iff.mp he);exact⟨k,b,hx,rfl,S.keys _ hx⟩
theorem HS.at {xs:List (K×G)}{es:Array (Int×F)}{C:Nat->Option (Int×F)}(S:HS knd h xs es t C){e:Int×F}(hc:C j=J e):∃k b,(k,b)∈xs/\e=(knd.hash k,.ref b)/\knd.is h k b:=by
 obtain⟨i,_,h2⟩:=(S.tab.con j e).mp hc;exact S.entry (by have:=Array.mem_of_getElem? h2;simpa using this)
theorem HS.has {xs:List (K×G)}{es:Array (Int×F)}{C:Nat->Option (Int×F)}(S:HS knd h xs es t C){k:K}(hx:(k,b)∈xs):∃j,C j=J (knd.hash k,.ref b):=by
 have:=S.per.mem_iff.mpr (á.mpr ⟨_,hx,rfl⟩);obtain⟨i,hi⟩:=List.mem_iff_getElem?.mp this;rw[Ĕ] at hi;have h2:i<t.place.size:=by rw[S.tab.sz];exact (Ū.mp hi).1
 exact⟨t.place[i],(S.tab.con _ _).mpr ⟨i,ħ h2,hi⟩⟩
theorem Fb (sk:qr knd){k:K}(hk:knd.is s.heap k b){Q:Bool->Ã->Prop}(l:List F)(hl:∀y∈l,∃k' b',y=.ref b'/\knd.is s.heap k' b')(h:Q Y s):Å (Ä prog w) A (searchCouldBeSeen (.ref b) l) Q E s:=by
 refine À ?_;refine wpAny_forIn_list _ (λrest r s'=>r.1=Z/\s'=s/\∀y∈rest,∃k' b',y=.ref b'/\knd.is s.heap k' b') _ ?_ ?_ _ _ ⟨rfl,rfl,hl⟩
 ·rintro y rest r s' ⟨hr,rfl,hy⟩;obtain⟨k',b',rfl,O7⟩:=hy y Ú;have next:=λz hz=>hy z (Ý _ hz)
  dsimp only;split
  ·exact Ë ⟨rfl,rfl,next⟩
  ·refine À (knd.quiet hk ?_);refine À (knd.quiet O7 ?_);refine À (sk.cls hk ?_);refine À (sk.cls O7 ?_);exact Ë ⟨rfl,rfl,next⟩
 ·rintro⟨r1,r2⟩ s' ⟨hr,rfl,_⟩;subst hr;exact Ë h
end
end Hc.Sx
namespace Hc.Sx
open PySem.SetTable
section
variable {K:Type}[DecidableEq K]{knd:Ĺ prog w K}{A:Ñ}
variable {o:Obj}{es:Array (Int×F)}{C:Nat->Option (Int×F)}{xs:List (K×G)}{k:K}
abbrev KY (t:Į)(h:Int)(n:Nat):Nat:=(advs t.mask n (ô t.mask h)).j
theorem qt (sk:qr knd)(hr:knd.room A)(hk:knd.is s.heap k b)(ho:s.heap.get? a=J o)(hd:o.data=.set es ep t)(S:HS knd s.heap xs es t C){Q:SetFound->Ã->Prop}{N:Nat}(hN:C (KY t (knd.hash k) N)=Z)
  (yO:k∈xs.map (·.1)->Q (.there Z) s)
  (vn:k∉xs.map (·.1)->∀n,(∀m,m<n->∃e,C (KY t (knd.hash k) m)=J e)->C (KY t (knd.hash k) n)=Z->Q (.free (KY t (knd.hash k) n) Y) s) :
  ∀(cJ n:Nat) (stand:Option Probe),stand.getD (t.probeStart (knd.hash k))=advs t.mask n (ô t.mask (knd.hash k))->N<n+cJ->(∀m,m<n->∃k' b',C (KY t (knd.hash k) m)=J (knd.hash k',.ref b')/\(k',b')∈xs/\k'≠k)->
   Å (Ä prog w) A (setSearchFrom a (.ref b) (knd.hash k) M cJ stand) Q E s
 |0,n,stand,hs,hf,hb=>by
  grind
 |cJ+1,n,stand,hs,hf,hb=>by
  refine À (ĵ ho hd S.fits ?_);dsimp only;rw[S.stays];simp only[đ,if_false];obtain⟨m',g1,g2⟩:=BR S.tab (λi e h=>by show (es[i]?.map (·.1)).getD 0=e.1;rw[h];rfl) _ (kM.advs n (kM.start t _));have pa:∀x,(advs t.mask x (advs t.mask n (t.probeStart _))).j=KY t (knd.hash k) (n+x):=λx=>by rw[<-iw];rfl
  have Xy:∀m,m<n+m'->∃k' b',C _=J _/\(k',b')∈xs/\k'≠k:=λm hm=>by
   rcases ņ m n with z|z
   ·exact hb m z
   ·obtain⟨e,h1,h2⟩:=g1 (m-n) (by lia);rw[pa,show n+(m-n)=m by simp[*]] at h1;obtain⟨k',b',hx,rfl,_⟩:=S.at h1;exact⟨k',b',h1,hx,λz=>h2 (by rw[z])⟩
  have pe:t.probe (λi=>(es[i]?.map (·.1)).getD 0) (knd.hash k) (stand.getD (t.probeStart (knd.hash k)))=t.probe (λi=>(es[i]?.map (·.1)).getD 0) (knd.hash k) (advs t.mask n (t.probeStart (knd.hash k))):=by rw[hs];rfl
  rcases g2 with⟨c1,c2⟩|⟨e,i,c1,c2,c3,c4,c5⟩
  ·
   have Xz:=pe.trans c2;rw[pa] at c1 Xz;have nx:k∉xs.map (·.1):=λhm=>by
    obtain⟨⟨k0,b0⟩,hx,rfl⟩:=á.mp hm;obtain⟨j,hj⟩:=S.has hx;obtain⟨m,hm,hmj⟩:=S.pth.met c1 hj rfl;obtain⟨k',b',h1,h2,h3⟩:=Xy m hm;have h1:C j=J (knd.hash k',.ref b'):=by rw[<-hmj];exact h1
    rw[hj] at h1;have eb:=by
     have:=(Prod.mk.inj (ó h1)).2;injection this
    subst eb;exact h3 (knd.inj (S.keys _ h2) (S.keys _ hx))
   have fin:=vn nx (n+m') (λm hm=>let ⟨k',b',h1,_⟩:=Xy m hm;⟨_,h1⟩) c1;split
   ·rename_i met hq;have e:=(hq.symm.trans Xz);cases e;exact Ë fin
   ·rename_i hq;exact absurd Xz (by intro z;exact hq _ z)
  ·
   have R3:=pe.trans c5;rw[pa] at c1 c4 R3;rw[<-iw] at R3;obtain⟨k',b',hx,rfl,O7⟩:=S.at c1;have body:∀R ,R=(do
     let J (_,y):=es[i]? | Ų "internal:set-entry"
     let equal ←ę [y] (eqBool y (.ref b))
     let (KG,_,t') ←setState a
     if M&&equal then return .there Z
     let J same:=t'.sameMemory t.moves t.mask|Ų "set.changed-during-lookup:is-the-new-block-at-the-old-address"
     let EE ←match (if same then t'.slot (KY t (knd.hash k) (n+m')) else .empty) with
      | .live i'=>match KG[i']? with
       |some (_,y')=>do pure (if ←isSame y' y then J i' else Z)
       |none=>pure Z
      |_=>pure Z
     match EE with
     |none=>rule "set.search.anew";setSearchFrom a (.ref b) (knd.hash k) M cJ Z
     |some i'=>if equal then return .there (J i') else setSearchFrom a (.ref b) (knd.hash k) M cJ (J (advs t.mask (n+(m'+1)) (t.probeStart (knd.hash k)))))->Å _ A R Q E s:=λR hR=>by
    subst hR;rw[c3];dsimp only;refine À (Ģ (knd.eqBool hr O7 hk ?_));refine À (ĵ ho hd S.fits ?_);by_cases q:k'=k
    ·rw[hG q];subst q;exact Ë (yO (á.mpr ⟨_,hx,rfl⟩))
    ·rw[hJ q];have sm:t.sameMemory t.moves t.mask=J M:=by unfold SetTable.sameMemory;simp
     rw[sm];obtain⟨i2,l1,l2,l3⟩:=S.tab.live c1;rw[l1];simp only[if_true];rw[l2];refine À (wpAny_isSame_ref_self ?_);simp only[if_true];refine À (Ë ?_);refine qt sk hr hk ho hd S hN yO vn cJ _ _ rfl (by lia) λm hm=>?_;rcases ņ m (n+m') with z|z
     ·exact Xy m z
     ·have:m=n+m':=by lia
      subst this;exact⟨k',b',c1,hx,q⟩
   split
   ·rename_i met hq;have e:=(hq.symm.trans R3);cases e;dsimp only;split
    ·refine À (Fb sk hk _ (λy hy=>?_) ?_)
     ·obtain⟨e,he,rfl⟩:=á.mp hy;have he:e∈es.toList:=by
       grind
      obtain⟨k2,b2,_,rfl,h2⟩:=S.entry he;exact⟨k2,b2,rfl,h2⟩
     ·exact body _ rfl
    ·exact body _ rfl
   ·rename_i hq;exact absurd R3 (by intro z;exact hq _ z)
theorem Fc (sk:qr knd)(hr:knd.room A)(hk:knd.is s.heap k b)(ho:s.heap.get? a=J o)(hd:o.data=.set es ep t)(S:HS knd s.heap xs es t C){Q:SetFound->Ã->Prop}
  (yO:k∈xs.map (·.1)->Q (.there Z) s)
  (vn:k∉xs.map (·.1)->∀n,(∀m,m<n->∃e,C (KY t (knd.hash k) m)=J e)->C (KY t (knd.hash k) n)=Z->Q (.free (KY t (knd.hash k) n) Y) s) :
  Å (Ä prog w) A (setSearch a (.ref b) (knd.hash k) M) Q E s:=by
 obtain⟨y,hy,hc⟩:=S.tab.free;obtain⟨p,hp⟩:=S.tab.pow;obtain⟨N,h1,h2⟩:=wG hp (kM.start t _) hy;refine qt sk hr hk ho hd S (by show C (advs t.mask N (t.probeStart _)).j=Z;rw[h2];exact hc) yO vn 100000 0 Z rfl ?_ λm hm=>by lia
 have:=S.hi;unfold turns at h1;lia
end
end Hc.Sx
namespace Hc.Sx
open PySem.SetTable
def mn {α:Type}(xs:Array α)(p:Nat)(x:α):(insertAt xs p x).toList.Perm (xs.toList++[x]):=by
 rw[ja];have h:(x::xs.toList.drop p).Perm _:=(List.perm_append_singleton x _).symm;grind[Ŗ,trans,õ,Ł]
section
variable {K:Type}[DecidableEq K]{knd:Ĺ prog w K}{A:Ñ}
variable {o:Obj}{es:Array (Int×F)}{C:Nat->Option (Int×F)}{xs:List (K×G)}{k:K}{byText:Bool}
noncomputable def mq (xs:List (K×G))(k:K)(b:G):List (K×G):=if k∈xs.map (·.1) then xs else xs++[(k,b)]
def stored (ho:h.get? a=J o)(hd:o.data=.set es ep t)(KG:Array (Int×F))(t':Į) :
  (h.update a (Obj.putSet KG t')).get? a=J {o with data:=.set KG (ep+1) t'}:=by
 have:=χ (Obj.putSet KG t') ho (by rw[putSet_of KG t' hd];rfl);rw[putSet_of KG t' hd] at this;exact this
theorem HJ {h:Í}(sk:qr knd)(ho:s.heap.get? a=J o)(K2:o.ExactSet)(hd:o.data=.set es ep t)(tab:vG t es C)(pl:t.plain=M)(per:es.toList.Perm (xs.map (WB knd)))(keys:∀x∈xs,knd.is s.heap x.1 x.2)(nd:(xs.map (·.1)).Nodup)(led:byText=M\/t.led=M){n:Nat}(hn:es.size=n)(hn0:1<=n)(YH:n<=2047){Q:Unit->Ã->Prop}(q:∀h',œ a s.heap h'->mW knd byText h' a xs->Q () {s with heap:=h'}) :
  Å (Ä prog w) A (setRelay a (grown n)) Q E s:=by
 have hw:grown n=n*4:=by unfold grown;rw[hU (by lia)]
 have ab:=HH (n:=grown n) (by rw[hw];exact γ (show n*4<=8192 by lia) (by decide));have sz:Â=16777216:=rfl;generalize eS:sizeAbove (grown n)=sA at ab;obtain⟨⟨p,hp⟩,a1,a2,a3⟩:=ab;have m1:sA-1+1=2 ^ p:=by lia
 have m8:=by
  have p14:p<14:=by
   refine Ϲ λz=>?_;have h14:(2:Nat) ^ 14<=2 ^ p:=Ω (by decide) (by lia);(simp at *;lia)
  have h13:(2:Nat) ^ p<=2 ^ 13:=Ω (by decide) (by lia);omega
 have ZD:t.fits es.size=M:=by
  unfold SetTable.fits SetTable.fill;rw[tab.sz,tab.dum];simp;exact tab.room
 obtain⟨t',order,C',h1,T',P',hsz,e1,e2,e3,e4,e5,hall⟩:=oh (es:=es) ⟨p,m1⟩ (by lia);refine À (ĵ ho hd ZD ?_);dsimp only;rw[hU (by lia)];have hr:t.relaid (es.map (·.1)) (grown n)=J (t',order):=by unfold SetTable.relaid;rw[eS];exact h1
 have Nc:(order.filterMap (es[·]?)).size<=Â:=by lia
 have VQ:¬(((order.filterMap (es[·]?)).size != es.size)=M):=by rw[hsz];simp
 refine À (Λ (by rw[hr];exact hU VQ) ?_);refine wpAny_storeSet_of ho hd ?_ Nc;have R4:=Η s.heap a (Obj.putSet (order.filterMap (es[·]?)) t');refine q _ R4 ⟨_,_,_,t',C',stored ho hd _ _,K2,rfl,⟨T',by rw[e1];exact P',by rw[e5];exact pl,by lia,by simp[*],by rw[hsz,hn];lia,?_,λx hx=>sk.kept (keys x hx) ho hd R4,nd⟩,led.imp id λz=>by rw[e4];exact z⟩;exact hall.trans per
end
end Hc.Sx
namespace Hc.Sx
open PySem.SetTable
section
variable {K:Type}[DecidableEq K]{knd:Ĺ prog w K}{A:Ñ}
variable {xs:List (K×G)}{k:K}{byText:Bool}
theorem Qc (sk:qr knd)(hr:knd.room A)(hk:knd.is s.heap k b)(hS:mW knd byText s.heap a xs)(hl:xs.length+1<=2047){Q:Bool->Ã->Prop}
  (q:∀h' r,œ a s.heap h'->mW knd byText h' a (mq xs k b)->Q r {s with heap:=h'}):Å (Ä prog w) A (setAddHashed a (.ref b) (knd.hash k)) Q E s:=by
 obtain⟨o,es,ep,t,C,ho,K2,hd,S,led⟩:=hS;have ZE:=by have:=S.per.length_eq;simpa using this
 refine Ģ (À (ĵ ho hd S.fits ?_));dsimp only;refine À (Fc sk hr hk ho hd S (λvk=>?_) λVd n hb hc=>?_)
 ·refine Ë ?_;have e:s={s with heap:=s.heap}:=by rfl
  exact q s.heap Y (Heap.SameBut.refl a s.heap) (by unfold mq;rw[hV vk];exact⟨o,es,ep,t,C,ho,K2,hd,S,led⟩)
 ·refine À (ĵ ho hd S.fits ?_);have few:=S.few;have lo:=S.lo;have jm:=by
   have:∀n,(advs t.mask n (ô t.mask (knd.hash k))).j+(advs t.mask n (ô t.mask (knd.hash k))).more<=t.mask:=by
    intro n
    induction n with
    |zero=>
     show bits _ % (t.mask+1)+(runEnd t.mask _-bits _ % (t.mask+1))<=t.mask;have:bits (knd.hash k) % (t.mask+1)<t.mask+1:=Ň _ (ũ _);unfold runEnd;split<;>lia
    |succ n ih=>
     rw[wF];unfold adv;split
     ·lia
     ·dsimp only;have:(leap t.mask (advs t.mask n (ô t.mask (knd.hash k))).i (advs t.mask n (ô t.mask (knd.hash k))).perturb).1<t.mask+1:=Ň _ (ũ _);unfold runEnd;split<;>lia
   have:=this n;show (advs t.mask n (ô t.mask (knd.hash k))).j<=t.mask;lia
  obtain⟨T1,p1,p2,p3,p4,p5⟩:=S.tab.put (e:=(knd.hash k,Value.ref b)) jm hc (by (simp at *;lia));have P1:=Nv.up S.pth (e:=(knd.hash k,Value.ref b)) hb hc;generalize et:(t.put _).1=t1 at *;generalize ei:(t.put _).2=ip at *;have Nc:=by
   have:=(mn es ip (knd.hash k,Value.ref b)).length_eq;simpa using this
  rw[hV (by rw[p2];exact S.pl)];refine À (sk.byv hk ?_);simp only[if_true];have sl:Â=16777216:=rfl;refine À (wpAny_storeSet_of ho hd ?_ (by lia));have R4:=Η s.heap a (Obj.putSet (insertAt es ip (knd.hash k,Value.ref b)) t1);have Ve:=stored ho hd (insertAt es ip (knd.hash k,Value.ref b)) t1;have YI:mq xs k b=xs++[(k,b)]:=by unfold mq;rw[hU Vd]
  have Vf:(insertAt es ip (knd.hash k,Value.ref b)).toList.Perm ((xs++[(k,b)]).map (WB knd)):=by
   rw[Ą];exact (mn _ _ _).trans (ŭ _ S.per)
  have O8:∀x∈xs++[(k,b)],knd.is _ x.1 x.2:=λx hx=>by
   rcases ñ.mp hx with z|z
   ·exact sk.kept (S.keys x z) ho hd R4
   ·rw[ð.mp z];exact sk.kept hk ho hd R4
  have YJ:((xs++[(k,b)]).map (·.1)).Nodup:=by
   rw[Ą,Ϥ];exact⟨S.nd,by simp,λx hx y hy e=>by
    grind⟩
  have Vg:byText=M\/t1.led=M:=led.imp id λz=>by rw[p3];exact z
  have Vh:t1.fill=es.size+1:=by
   unfold SetTable.fill;rw[T1.sz,T1.dum,Nc];rfl
  cases tf:t1.tooFull with
  |false=>
   refine Ë (q _ M R4 ?_);rw[YI];refine⟨_,_,_,t1,_,Ve,K2,rfl,⟨T1,by rw[p1];exact P1,by rw[p2];exact S.pl,by rw[p1];exact lo,by rw[p1];exact S.hi,?_,Vf,O8,YJ⟩,Vg⟩;unfold SetTable.tooFull at tf;rw[Vh] at tf;rw[Nc];simpa using tf
  |true=>
   refine À (HJ (h:=s.heap) (s:={s with heap:=s.heap.update a _}) sk Ve K2 rfl T1 (by rw[p2];exact S.pl) Vf O8 YJ Vg Nc (by lia) (by simp[*]) λh' XA H'=>?_);refine Ë (q h' M (R4.trans XA) ?_);rw[YI];exact H'
theorem HK {led:Bool}(hl:byText=M\/led=M)(hg:h.get? a=J {cls:=.type "set",dict:=Z,data:=.set #[] 0 (.fresh 0 0 led)}):mW knd byText h a []:=by
 refine⟨_,#[],0,.fresh 0 0 led,λ_=>Z,hg,⟨rfl,rfl,rfl⟩,rfl,⟨⟨λi j hi=>absurd hi (Nat.not_lt_zero _),rfl,rfl,⟨3,rfl⟩,Ħ _,λi j h=>?_,λj e=>⟨λh=>(by cases h),fun⟨i,h,_⟩=>?_⟩⟩,λj e h=>(by cases h),rfl,Ð _,(show (7:Nat)<=8191 by decide),(show 0*5<7*3 by decide),Ŀ _,λx hx=>(by cases hx),List.nodup_nil⟩,hl⟩
 ·have h:(#[]:Array Nat)[i]? = J j:=h;simp at h
 ·have h:(#[]:Array Nat)[i]? = J j:=h;simp at h
end
end Hc.Sx
namespace Hc.Sx
open PySem.SetTable
section
variable {K:Type}[DecidableEq K]{knd:Ĺ prog w K}{A:Ñ}
variable {xs:List (K×G)}{k:K}{byText:Bool}
theorem mW.keep (H:mW knd byText h a xs)(e:∀o,h.get? a=J o->h'.get? a=J o)(hk:∀x∈xs,knd.is h' x.1 x.2):mW knd byText h' a xs:=by
 obtain⟨o,es,ep,t,C,ho,K2,hd,S,led⟩:=H;exact⟨o,es,ep,t,C,e o ho,K2,hd,⟨S.tab,S.pth,S.pl,S.lo,S.hi,S.few,S.per,hk,S.nd⟩,led⟩
theorem mW.setAt (H:mW knd byText h a xs):∃o es ep t,h.get? a=J o/\o.data=.set es ep t:=by
 obtain⟨o,es,ep,t,C,ho,K2,hd,S,led⟩:=H;exact⟨o,es,ep,t,ho,hd⟩
def eT (val:Nat->K×G):Nat->List (K×G)
 |0=>[]
 |i+1=>mq (eT val i) (val i).1 (val i).2
theorem zF (val:Nat->K×G){i:Nat}:∀{n:Nat},i<=n->(eT val i).length<=(eT val n).length
 |0,h=>by rw[Nat.le_zero.mp h];exact Ð _
 |n+1,h=>by
  by_cases e:i=n+1
  ·rw[e];exact Ð _
  ·refine ä (zF val (n:=n) (by lia)) ?_;show (eT val n).length<=(mq _ _ _).length;unfold mq;split
   ·exact Ð _
   ·rw[Þ];lia
theorem lR (val:Nat->K×G):∀(i:Nat) (x:K×G),x∈eT val i->∃j,j<i/\x=val j
 |0,x,h=>by cases h
 |i+1,x,h=>by
  unfold eT mq at h;split at h
  ·obtain⟨j,h1,h2⟩:=lR val i x h;exact⟨j,by lia,h2⟩
  ·rcases ñ.mp h with z|z
   ·obtain⟨j,h1,h2⟩:=lR val i x z;exact⟨j,by lia,h2⟩
   ·exact⟨i,by lia,ð.mp z⟩
variable {R:Result->Ã->Prop}{I:Õ}{wr:List Õ}{G:Array GenState->Array GenState->Prop}{n:Nat}{P:Nat->F->Prop}{St:Nat->Ã->Prop}
theorem Fd (sk:qr knd)(hr:knd.room A.in1)(W:WalksS prog w A.in1 I fp wr G n P St)(S:Õ)(YK:S∉fp)(val:Nat->K×Õ)(XB:∀i v,P i v->v=.ref (val i).2)(hn:(eT val n).length+1<=2047)
  (mv:∀i (s s':Ã),i<=n->St i s->Moved wr G s s'->(∀j,j<n->knd.is s.heap (val j).1 (val j).2)->∀j,j<n->knd.is s'.heap (val j).1 (val j).2) :
  ∀(d i:Nat) (s:Ã),n-i=d->i<=n->St i s->(∀j,j<n->knd.is s.heap (val j).1 (val j).2)->mW knd byText s.heap S (eT val i)->
   (∀s',Moved (S::wr) G s s'->(∀j,j<n->knd.is s'.heap (val j).1 (val j).2)->mW knd byText s'.heap S (eT val n)->R (.ok (.ret .none)) s')->
   ĺ (Ä prog w) A (.builtin "set.update.loop" ⟨[.ref S,.ref I],[]⟩) R s:=by
 have nS:=λh=>YK (W.sub _ h);have up:∀b∈wr,b∈S::wr:=λb hb=>Ý _ hb;have EE:∀i (s s':Ã),i<=n->St i s->Moved wr G s s'->(∀j,j<n->knd.is s.heap (val j).1 (val j).2)->mW knd byText s.heap S _->mW knd byText s'.heap S _:=λi s s' hi st m hk H=>
  H.keep (λo e=>m.heap S o nS e) λx hx=>by
   obtain⟨j,h1,rfl⟩:=lR val i x hx;exact mv i s s' hi st m hk j (by lia)
 intro d
 induction d with
 |zero=>
  intro i s hd hi st hk H q;obtain rfl:i=n:=by lia
  refine ś F.entry_set_update_loop ?_;refine À (W.done s _ _ st λs' m=>?_);exact Ë (q s' (m.mono up) (mv i s s' hi st m hk) (EE i s s' hi st m hk H))
 |succ d ih=>
  intro i s hd hi st hk H q;have lt:i<n:=by lia
  refine ś F.entry_set_update_loop ?_;refine À (W.item i s _ _ lt st λv s1 hP CC m=>?_);obtain rfl:=XB i v hP;have H1:=EE i s s1 hi st m hk H;have KI:=mv i s s1 hi st m hk;refine À (Ģ ?_);refine Ģ (À (knd.pyHash hr (KI i lt) ?_));refine Qc (s:={s1 with toks:=s1.toks+knd.draws (val i).1}) sk hr (KI i lt) H1 (by have:=zF val hi;lia) λh' r sb H2=>?_;obtain⟨oS,eS,epS,tS,gS,dS⟩:=H1.setAt;have YL:=λj hj=>sk.kept (KI j hj) gS dS sb;refine Ë ⟨plainId_quiet F.plain_set_update_loop _,ih (i+1) _ (by lia) lt (W.frame _ s1 _ _ CC (İ _ _) λb hb o e=>?_) YL H2 λs2 m2 ZF H3=>?_⟩
  ·rw[sb.2 b (λz:b=S=>YK (by rw[<-z];exact hb))];exact e
  ·refine q s2 (Moved.trans W.gtrans ((m.mono up).then_heap (İ _ _) λb o hb e=>?_) m2) ZF H3;rw[sb.2 b (λz:b=S=>hb (by rw[z];exact Ú))];exact e
end
end Hc.Sx
namespace Hc.Sx
open PySem.SetTable
noncomputable abbrev Bk (w:ß):Bool:=w.params.followText "set-order"
noncomputable abbrev newS (w:ß):Obj:={cls:=.type "set",dict:=Z,data:=.set #[] 0 (.fresh 0 0 (!Bk w))}
section
variable {A:Ñ}
theorem HL (x:F)(q:Q (.ref s.heap.objs.size) {s with heap:=s.heap.push (newS w)}):ĺ (Ä prog w) A (.call (.builtin "set.__new__") ⟨[.type "set",x],[]⟩) (wants Q E) s:=by
 refine codeAny_of_tree ?_;refine À (Λ (PySem.F.newCall_set_1 x) (Ë ⟨plainId_quiet PySem.F.plain_set_new _,ś PySem.F.entry_set_new ?_⟩));unfold Builtin.«set.__new__» Builtin.Frozenset.newClass;have sb:=sub_set_self;wp_walk;refine Ś (Ë ?_);exact À (wpAny_alloc (Ë (Ë q)))
theorem set_call {t:G}(R:Ã->Prop)(fill:Å (Ä prog w) A.in1.in1 (Builtin.«set.__init__» ⟨[.ref s.heap.objs.size,.ref t],[]⟩) (λfin s'=>∃r,fin=.done (.ret r)/\r=.none/\R s') E {s with heap:=s.heap.push (newS w)})(q:∀s',R s'->Q (.ref s.heap.objs.size) s'):Å (Ä prog w) A (call (.type "set") [.ref t]) Q E s:=by
 have mk0:=PySem.F.called_set.made;have sb0:=PySem.F.called_set.sub;have tc0:=PySem.F.typeCall_set_1 (Value.ref t);refine wpAny_call (codeAny_of_tree ?_);refine Ë ⟨Code.quiet_builtin _ (by decide+kernel),ś PySem.F.entry_type_call ?_⟩
 repeat (any_goals first|assumption|wp_step)
 refine ű (HL _ (E:=E) (Q:=λx s1=>x=.ref _/\s1={s with heap:=s.heap.push (newS w)}) ⟨rfl,rfl⟩) λr s1 hr=>?_;cases r with
 |error e=>exact hr
 |ok fl=>
  cases fl with
  |ret ob=>
   obtain⟨rfl,rfl⟩:=hr;have gS:(s.heap.push (newS w)).get? _=J (newS w):=æ _ rfl;have tS:Shared.TypeIs {s with heap:=s.heap.push (newS w)} (.ref _) "set":=⟨_,gS,rfl⟩;have il:=PySem.F.called_set.init.lookup;have ib:=PySem.F.called_set.init.bind (Value.ref s.heap.objs.size)
   repeat (any_goals first|assumption|wp_step)
   refine ű (codeAny_call_builtin (R:=wants (λr s2=>r=.none/\R s2) E) PySem.F.called_set.init.plain PySem.F.entry_set_init (check_set_init_1 tS ?_)) λr2 s2 lD=>?_
   ·exact ù fill (λfin s' ⟨r,e,h1,h2⟩=>by subst e;exact⟨h1,h2⟩) (λe s' h=>h)
   ·cases r2 with
    |error e=>exact lD
    |ok f2=>
     cases f2 with
     |ret r=>
      obtain⟨rfl,h2⟩:=lD
      repeat (any_goals first|assumption|wp_step)
      exact q _ h2
     |_=>exact lD.elim
  |_=>exact hr.elim
variable {K:Type}[DecidableEq K]{knd:Ĺ prog w K}
theorem zG {l:G}{its:Array F}(sk:qr knd)(mono:∀{h h':Í} {k:K} {a:G},knd.is h k a->(∀b its,h.IsTuple b its->h'.IsTuple b its)->knd.is h' k a)(hr:knd.room A.in1.in1.in1)(hh:A.handled=Z)(hl:s.heap.IsList l its)(val:Nat->K×G)(hv:∀(i:Nat) (v:F),its[i]? = J v->v=.ref (val i).2)(hk:∀j,j<its.size->knd.is s.heap (val j).1 (val j).2)(hb:(eT val its.size).length+1<=2047)(q:∀(h':Í) (tk:Nat),mW knd (Bk w) h' s.heap.objs.size (eT val its.size)->(∀b o,s.heap.get? b=J o->h'.get? b=J o)->Q (.ref s.heap.objs.size) {s with heap:=h',toks:=tk}) :
  Å (Ä prog w) A (call (.type "set") [.ref l]) Q E s:=by
 refine set_call (λs'=>∃h' tk,s'={s with heap:=h',toks:=tk}/\mW knd (Bk w) h' s.heap.objs.size (eT val its.size)/\∀b o,s.heap.get? b=J o->h'.get? b=J o) ?_ λs' h00=>by obtain⟨h',tk,e,h1,h2⟩:=h00;subst e;exact q h' tk h1 h2
 obtain⟨ot,gt,ct,nt,dt⟩:=hl;obtain⟨oc,od,oda,os⟩:=ot;simp only at ct dt;subst ct;subst dt;have XC:(s.heap.push (newS w)).get? l=J {cls:=.type "list",dict:=od,data:=.seq its nt,slots:=os}:=Ö _ gt;have gS:(s.heap.push (newS w)).get? s.heap.objs.size=J (newS w):=æ _ rfl;have n1:=PySem.F.sub_list_set;have n2:=PySem.F.sub_list_frozenset;have n3:(Value.type "list"==Value.type "dict")=Y:=by decide
 have SN:(s.heap.push (newS w)).IsList l its:=⟨_,XC,rfl,nt,rfl⟩;unfold Builtin.«set.__init__» noKeywords aeS;generalize ePI:pyIter=PI;wp_walk;subst ePI;refine ϕ SN ?_;refine À (ϗ ?_);have lt:l<s.heap.objs.size:=Û gt;have h3:A.in1.in1.in1.handled=Z:=by simp[hh]
 have XD:l≠(s.heap.push (newS w)).objs.size:=by rw[Đ];exact è (ž lt)
 have ni:s.heap.objs.size∉[(s.heap.push (newS w)).objs.size,l]:=by
  rw[Đ];simp only[à,Ő,or_false,not_or];exact⟨è (δ _),Ŕ lt⟩
 have YM:∀(h:Í) (o:Obj) b its,h.IsTuple b its->(h.push o).IsTuple b its:=λh o b its x=>x.push o;refine Fd (byText:=Bk w) sk hr ((Walks.list h3 _ l XD its).toS) s.heap.objs.size ni val hv hb (λi u u' _ st m ks j hj=>?_) (its.size-0) 0 _ (by lia) (Ħ _) ⟨⟨_,æ _ rfl,rfl,rfl⟩,SN.push _⟩ (λj hj=>mono (hk j hj) λb i2 x=>YM _ _ _ _ (YM _ _ _ _ x)) ?z0 ?zR
 ·refine mono (ks j hj) λb i2 ⟨o,e,c,n,d⟩=>⟨o,m.heap b o (λhm=>?_) e,c,n,d⟩;rw[ð] at hm;subst hm;obtain⟨o2,e2,c2,_⟩:=st.1;lia
 case z0=>exact HK (by lia) (Ö _ gS)
 case zR=>
  intro s' hm _ K1;obtain⟨h',g',d',Va,o'⟩:=s';have eg:g'=s.gens:=hm.gens;have ed:d'=s.drawn:=hm.drawn;have XF:o'=s.os:=hm.os;subst eg;subst ed;subst XF;show Å _ _ _ _ _ _;refine Ë ?_;show Å _ _ (ret Value.none) _ _ _;refine Ë ⟨_,rfl,rfl,h',Va,rfl,K1,λb o e=>?_⟩;have Vi:=Û e;refine hm.heap b o ?_ (Ö _ (Ö _ e));rw[Đ];simp only[à,Ő,or_false,not_or];exact⟨è Vi,è (ž Vi)⟩
end
end Hc.Sx
namespace L2
noncomputable def kN (ns:List Int):List Int:=ns.foldl step_dedup []
def oj (ns:List Int):firstMet (λi=>ns.getD i 0) ns.length=kN ns:=by
 unfold firstMet kN;congr 1;apply List.ext_getElem (by simp);intro i h1 h2;simp[Ø h2]
section
variable {A:Ñ}
theorem BS {t:G}{its:Array F}(hh:A.handled=Z)(ht:s.heap.IsTuple t its)(hi:ý its.toList ns)(hb:its.size+1<scanBound)(q:∀(h':Í) (tk:Nat) (S:Int->Bool),h'.SetOf (intKind prog w) s.heap.objs.size S (kN ns).length->(∀b o,s.heap.get? b=J o->h'.get? b=J o)->Q (.ref s.heap.objs.size) {s with heap:=h',toks:=tk}) :
  Å (Ä prog w) A (call (.type "set") [.ref t]) Q E s:=by
 have sz:its.size=ns.length:=by have:=hi.length;simpa using this
 refine Hc.Sx.set_call (λs'=>∃h' tk S,s'={s with heap:=h',toks:=tk}/\h'.SetOf (intKind prog w) s.heap.objs.size S (kN ns).length/\∀b o,s.heap.get? b=J o->h'.get? b=J o) ?_ λs' h00=>by obtain⟨h',tk,S,e,h1,h2⟩:=h00;subst e;exact q h' tk S h1 h2
 obtain⟨ot,gt,ct,nt,dt⟩:=ht;obtain⟨oc,od,oda,os⟩:=ot;simp only at ct dt;subst ct;subst dt;have XC:(s.heap.push (Hc.Sx.newS w)).get? t=J {cls:=.type "tuple",dict:=od,data:=.seq its nt,slots:=os}:=Ö _ gt;have gS:(s.heap.push (Hc.Sx.newS w)).get? s.heap.objs.size=J (Hc.Sx.newS w):=æ _ rfl;have n1:=PySem.F.sub_tuple_set;have n2:=PySem.F.sub_tuple_frozenset;have n3:(Value.type "tuple"==Value.type "dict")=Y:=by decide
 have SN:(s.heap.push (Hc.Sx.newS w)).IsTuple t its:=⟨_,XC,rfl,nt,rfl⟩;unfold Builtin.«set.__init__» noKeywords aeS;generalize ePI:pyIter=PI;wp_walk;subst ePI;refine afg SN ?_;refine À (ϗ ?_);have lt:t<s.heap.objs.size:=Û gt;have h3:A.in1.in1.in1.handled=Z:=by simp[hh]
 have XD:t≠(s.heap.push (Hc.Sx.newS w)).objs.size:=by rw[Đ];exact è (ž lt)
 have ni:s.heap.objs.size∉[(s.heap.push (Hc.Sx.newS w)).objs.size,t]:=by
  rw[Đ];simp only[à,Ő,or_false,not_or];exact⟨è (δ _),Ŕ lt⟩
 have vl:∀(i:Nat) (v:F),its[i]? = J v->∃t,v=.int ((λi=>ns.getD i 0) i) t:=λi v hv=>IntsAre.int_at hi i v (by rw[Ĕ];exact hv);refine codeAny_set_update_loopS ((Walks.tuple h3 _ t XD its).toS) s.heap.objs.size ni (λi=>ns.getD i 0) vl hb (its.size-0) 0 _ (by lia) (Ħ _) ⟨⟨_,æ _ rfl,rfl,rfl⟩,SN.push _⟩ ?z0 ?zR
 case z0=>exact SetOf_congr ((setObjOf_fresh (knd:=intKind prog w) _).setOf (Ö _ gS) (by unfold scanBound;lia)) (λ_=>rfl) rfl
 case zR=>
  intro s' hm K1;obtain⟨h',g',d',Va,o'⟩:=s';have eg:g'=s.gens:=hm.gens;have ed:d'=s.drawn:=hm.drawn;have XF:o'=s.os:=hm.os;subst eg;subst ed;subst XF;show Å _ _ _ _ _ _;refine Ë ?_;show Å _ _ (ret Value.none) _ _ _;rw[sz,oj] at K1;refine Ë ⟨_,rfl,rfl,h',Va,_,rfl,K1,λb o e=>?_⟩;have Vi:=Û e;refine hm.heap b o ?_ (Ö _ (Ö _ e));rw[Đ];simp only[à,Ő,or_false,not_or];exact⟨è Vi,è (ž Vi)⟩
end
section
variable {G:Gm}{e:É}{j5 p1:Pos}{b1:Bool}{ga:Ev->R (List U×Ev)}
def HM:þ "set"=J (.type "set"):=by rfl
def Ny (K:Ê):List V->Hp->VK->Prop:=λxs H Q=>∃(p:Õ) (ns:List Int),xs=[.ref p]/\fE K H p (ns.map V.int)/\ns.length<64/\∀(l:Õ) (S:Int->Bool),H l=Z->Q (.ref l) (cT H l (.set S (kN ns).length))
def HN (ns:List Int):(kN ns).length<=ns.length:=by
 rw[<-oj];exact firstMet_length_le _ _
theorem Fe (hc:X.calm=M):eh X (.type "set") (Ny X.K):=by
 intro pins s L H xs us Q I r h;obtain⟨p,ns,rfl,hq,h64,q⟩:=h;obtain⟨u,rfl,rx⟩:=gD r;cases rx;obtain⟨its,rv,pl,hz⟩:=I.tuple hq;have hI:ý its ns:=dh rv;have hl:=hI.length;refine BS (I.ok.hd hc) (its:=its.toArray) pl hI (by unfold scanBound;rw[ë];lia) λh' tk S hS hk=>?_;exact⟨.ref s.heap.objs.size,_,I.laid (a:=s.heap.objs.size) (o:=.set S (kN ns).length) (t':=tk) hk (Ð _) hS,rfl,q _ S (I.hok.fresh (Ð _))⟩
def Nz:List V->Hp->VK->Prop:=λxs H Q=>∃(p:Õ) (S:Int->Bool) (n:Nat),xs=[.ref p]/\H p=J (.set S n)/\n<64/\Q (.int n) H
theorem Ff:eh X (.builtin "len") Nz:=by
 intro pins s L H xs us Q I r h;obtain⟨p,S,n,rfl,hq,h64,q⟩:=h;obtain⟨u,rfl,rx⟩:=gD r;cases rx;obtain⟨o,es,ep,t,ho,hx,hd,_,_,_,hf,hn⟩:s.heap.SetOf _ p S n:=I.hok p _ hq;subst hn;exact call_len_set ho hx hd hf (by lia) ⟨.int _,H,I.tok _,⟨_,rfl⟩,q⟩
def lS:List U->R U:=λus=>match us with
 | [.tup xs]=>match dP xs with
  |some ns=>if ns.length<64 then .ok (.int (kN ns).length) else .stk
  |none=>.stk
 |_=>.stk
theorem BU:mR K (λvs H Q=>Ny K vs H λx H2=>Nz [x] H2 Q) .S lS:=λA H vs us z Q h mu e q=>by
 unfold lS at e;split at e
 ·rename_i xs;split at e
  ·rename_i ns hb;split at e
   ·rename_i hl;cases e;obtain⟨v,rfl,p⟩:=h.one;unfold Pk at p;obtain⟨a,ys,rfl,h1,l1,r1⟩:=p;rw[fT hb] at r1;rw[r1.toI] at h1;have:=HN ns;exact⟨a,ns,rfl,fE.of h1,hl,λl S hn=>⟨l,S,_,rfl,aW,by lia,q _ _ (cK hn _) (show Rp K _ A _ _ from dC)⟩⟩
   ·cases e
  ·cases e
 ·cases e
def Fg (hc:X.calm=M)(ha:DA X G [e] b1 M ga)(hg:Gl X "len")(hm:X.mg "len"=Z)(R1:Gl X "set")(XG:X.mg "set"=Z)
  (he:Ç [e] X.env=(Y,Ì e X.env)::Ç [] X.env:=by rfl) (jh:(ã j5 (Ç [] X.env)).any (·.1)=Y:=by rfl)
  (Vj:Ç [.Call (.Name "set" p2) [e] [] j5] X.env=(Y,Ì (.Call (.Name "set" p2) [e] [] j5) X.env)::Ç [] X.env:=by rfl) (CD:(ã pos (Ç [] X.env)).any (·.1)=Y:=by rfl) :
  DE X G (.Call (.Name "len" p1) [.Call (.Name "set" p2) [e] [] j5] [] pos) b1 .S (dq lS ga):=⟨(jk Ff hg hm cy (df (eP (Fe hc) R1 XG HM ha.un (by decide) (by decide) he jh) gm Vj) (by decide) (by decide) Vj CD).to λ_ _ _ h=>rW (p:=M) (BU (K:=X.K)) h⟩
end
@[irreducible] noncomputable def Qd (X:Cx)(G:Gm)(es:List É)(b p:Bool)(g:Ev->R (List U×Ev)):Prop:=DA X G es b p g
section
variable {G:Gm}{e:É}{b1 b2 p:Bool}{m1:Md}{g1:Ev->R (U×Ev)}{ga:Ev->R (List U×Ev)}
end
end L2
namespace Hc.Zp
def jc (l:Bool)(h:Í)(a:G)(xs:Array F):Prop:=if l=M then h.IsList a xs else h.IsTuple a xs
def gu (l:Bool)(h:Í)(it a:G)(i:Nat):Prop:=if l=M then h.IsListIter it a i else h.IsTupleIter it a i
noncomputable def Fh (l:Bool):String:=if l=M then "list_iterator" else "tuple_iterator"
theorem jc.at {l:Bool}{xs:Array F}(x:jc l h a xs)(e:∀o,h.get? a=J o->h'.get? a=J o):jc l h' a xs:=by
 cases l with
 |true=>exact Heap.IsList.at x e
 |false=>exact Heap.IsTuple.at x e
theorem gu.at {l:Bool}(x:gu l h it a i)(e:∀o,h.get? it=J o->h'.get? it=J o):gu l h' it a i:=by
 cases l with
 |true=>exact Heap.IsListIter.at x e
 |false=>exact Heap.IsTupleIter.at x e
theorem gu.obj {l:Bool}(x:gu l h it a i):∃o,h.get? it=J o/\o.data=.fields #[.ref a,.int i 0]/\o.cls=.type (Fh l):=by
 cases l with
 |true=>obtain⟨o,e,c,d⟩:=x;exact⟨o,e,d,c⟩
 |false=>obtain⟨o,e,c,d⟩:=x;exact⟨o,e,d,c⟩
section
variable {A:Ñ}
theorem BV {xs:Array F}{x:F}(hi:s.heap.IsTupleIter it a i)(ha:s.heap.IsTuple a xs)(hx:xs[i]? = J x)(q:∀h',h'.IsTupleIter it a (i+1)->œ it s.heap h'->Q x {s with heap:=h'}):Å (Ä prog w) A (Ϻ (.ref it)) Q E s:=by
 obtain⟨o,ho,hc,hd⟩:=id hi;obtain⟨oa,hoa,_,na,hda⟩:=ha;refine À (Ř hi.typeIs ϲ (Ī ϲ hi.typeIs ae4 ?_ (aeT _)));show Å _ _ (field _ 0 >>= _) _ _ s;refine À (ė ho hd rfl ?_);refine À (ė ho hd rfl ?_);refine À (Ŝ hoa hda ?_);simp only[ϑ,hx];refine À (ι ho hd (by simp) (Ë ⟨x,rfl,Ë (q _ ⟨_,χ _ ho (aeI (ζ hd _)),(afE ..).trans hc,?_⟩ (Η ..))⟩));rw[ζ hd];simp[rawInt]
theorem Fj {xs:Array F}(hh:A.handled=Z)(hi:s.heap.IsTupleIter it a i)(ha:s.heap.IsTuple a xs)(hx:xs[i]? = Z)(q:∀h' e,Heap.ExtBut it s.heap h'->(∃o,h'.get? e=J o/\o.cls=.type "StopIteration")->E (.ref e) {s with heap:=h'}):Å (Ä prog w) A (Ϻ (.ref it)) Q E s:=by
 obtain⟨o,ho,hc,hd⟩:=id hi;obtain⟨oa,hoa,_,na,hda⟩:=ha;refine À (Ř hi.typeIs ϲ (Ī ϲ hi.typeIs ae4 ?_ (aeT _)));show Å _ _ (field _ 0 >>= _) _ _ s;refine À (ė ho hd rfl ?_);refine À (ė ho hd rfl ?_);refine À (Ŝ hoa hda ?_);simp only[ϑ,hx];refine À (ĸ (À (ι ho hd (by simp) ?_)));refine À ?_;refine À (m:=firstArgMember _ _) (Λ (by rfl) ?_);refine ř ?_ (by size_fits);refine À (wpAny_handled ?_)
 first|rw[hh]|rw[hh]
 exact À (Ë (wpAny_throw (q _ _ (((Η ..).extBut.push _).push _) ⟨_,æ _ rfl,rfl⟩)))
theorem pP {l:Bool}{xs:Array F}{x:F}(hi:gu l s.heap it a i)(ha:jc l s.heap a xs)(hx:xs[i]? = J x)(q:∀h',gu l h' it a (i+1)->œ it s.heap h'->Q x {s with heap:=h'}):Å (Ä prog w) A (Ϻ (.ref it)) Q E s:=by
 cases l with
 |true=>exact wpAny_nextOf_list_item hi ha hx q
 |false=>exact BV hi ha hx q
theorem zH {l:Bool}{xs:Array F}(hh:A.handled=Z)(hi:gu l s.heap it a i)(ha:jc l s.heap a xs)(hx:xs[i]? = Z)(q:∀h' e,Heap.ExtBut it s.heap h'->(∃o,h'.get? e=J o/\o.cls=.type "StopIteration")->E (.ref e) {s with heap:=h'}):Å (Ä prog w) A (Ϻ (.ref it)) Q E s:=by
 cases l with
 |true=>exact wpAny_nextOf_list_end hh hi ha hx q
 |false=>exact Fj hh hi ha hx q
theorem Dq {l:Bool}{xs:Array F}(ha:jc l s.heap a xs)(q:Q (.ref s.heap.objs.size) {s with heap:=s.heap.push {cls:=.type (Fh l),data:=.fields #[.ref a,.int 0 0]}}):Å (Ä prog w) A (pyIter (.ref a)) Q E s:=by
 cases l with
 |true=>exact ϕ ha q
 |false=>exact afg ha q
def Fl {l1 l2:Bool}{xs:Array F}{x y p q:F}(D:ZipApart z uI uO i1 i2 a1 a2)(hz:IsZip s.heap z uI uO .none)(R5:ď s.heap uI (.ref i1) (.ref i2))(R6:ď s.heap uO p q)(h1:gu l1 s.heap i1 a1 k)(h2:gu l2 s.heap i2 a2 k)(g1:jc l1 s.heap a1 xs)(g2:jc l2 s.heap a2 ys)(hx:xs[k]? = J x)(hy:ys[k]? = J y)(hQ:∀h',IsZip h' z uI uO (rawInt s.heap.objs.size)->ď h' uO x y->gu l1 h' i1 a1 (k+1)->gu l2 h' i2 a2 (k+1)->ď h' s.heap.objs.size x y->(∀c o,c≠z->c≠uO->c≠i1->c≠i2->s.heap.get? c=J o->h'.get? c=J o)->Q (.ref s.heap.objs.size) {s with heap:=h'}) :
  Å (Ä prog w) A (Builtin.«zip.__next__» ⟨[.ref z],[]⟩) (λfin s'=>∃v,fin=.done (.ret v)/\Q v s') E s:=by
 show Å _ _ (field _ 2 >>= _) _ _ _;refine À (ė hz rfl rfl ?_);refine À (ė hz rfl rfl (À (Ŝ R5 rfl ?_)));refine À ?_;refine À (ė hz rfl rfl (Ë ?_));refine À (ĸ (À (ė hz rfl rfl (À (Θ hz (by simp) λw1 z1 b1=>?_)))));refine À ?_;refine À (À (wpAny_onRaise ?_));refine À (pP (h1.at λo e=>b1.extBut _ _ D.i1z e) (g1.at λo e=>b1.extBut _ _ D.l1z e) hx λw2 n2 b2=>Ë ?_);have t2:=b2.extBut _ _ D.TOi1 (b1.extBut _ _ D.TOz R6);refine À (Ŝ t2 rfl (À (aeO t2 λw3 t3 b3=>?_)));refine À (wpAny_letGo (Ë ?_));refine À (À (wpAny_onRaise ?_));refine À (pP (h2.at λo e=>b3.extBut _ _ D.TOi2.symm (b2.extBut _ _ D.i12.symm (b1.extBut _ _ D.i2z e))) (g2.at λo e=>b3.extBut _ _ D.l2TO (b2.extBut _ _ D.l2i1 (b1.extBut _ _ D.l2z e))) hy λw4 n4 b4=>Ë ?_);have t4:=b4.extBut _ _ D.TOi2 t3;refine À (Ŝ t4 rfl (À (aeO t4 λw5 t5 b5=>?_)))
 replace t5:ď w5 uO x y:=t5
 refine À (wpAny_letGo (Ë (Ë ?_)));refine À (Ŝ t5 rfl (À (wpAny_newTuple ?_)));have sz:w5.objs.size=s.heap.objs.size:=by rw[b5.1,b4.1,b3.1,b2.1,b1.1]
 have z5:=b5.extBut _ _ D.TOz.symm (b4.extBut _ _ D.i2z.symm (b3.extBut _ _ D.TOz.symm (b2.extBut _ _ D.i1z.symm z1)));have kp:∀c o,c≠z->c≠uO->c≠i1->c≠i2->s.heap.get? c=J o->w5.get? c=J o:=λc o c1 c2 c3 c4 e=>b5.extBut _ _ c2 (b4.extBut _ _ c4 (b3.extBut _ _ c2 (b2.extBut _ _ c3 (b1.extBut _ _ c1 e))));have n5:=n2.at λo e=>b5.extBut _ _ D.TOi1.symm (b4.extBut _ _ D.i12 (b3.extBut _ _ D.TOi1.symm e));have m5:=n4.at λo e=>b5.extBut _ _ D.TOi2.symm e;have lz:=Û z5;refine À ?_;have z6:IsZip (w5.push {cls:=.type "tuple",data:=.seq #[x,y]}) z uI uO .ellipsis:=Ö _ z5;refine À (Θ z6 (by simp) λw7 z7 b7=>?_);refine Θ z7 (by simp) λw8 z8 b8=>?_;have up:∀c o,c≠z->w5.get? c=J o->w8.get? c=J o:=λc o c1 e=>b8.extBut _ _ c1 (b7.extBut _ _ c1 (Ö _ e));have t8:=b8.extBut _ _ (Ŕ lz) (b7.extBut _ _ (Ŕ lz) (æ _ rfl));rw[sz] at z8 t8;refine Ë ⟨_,rfl,?_⟩;rw[sz];exact hQ w8 z8 (up _ _ D.TOz t5) (n5.at λo e=>up _ o D.i1z e) (m5.at λo e=>up _ o D.i2z e) t8 λc o c1 c2 c3 c4 e=>up c o c1 (kp c o c1 c2 c3 c4 e)
theorem HP {l1 l2:Bool}{xs:Array F}{p q:F}{Q:Fin->Ã->Prop}(hh:A.handled=Z)(D:ZipApart z uI uO i1 i2 a1 a2)(hz:IsZip s.heap z uI uO .none)(R5:ď s.heap uI (.ref i1) (.ref i2))(R6:ď s.heap uO p q)(h1:gu l1 s.heap i1 a1 k)(h2:gu l2 s.heap i2 a2 k)(g1:jc l1 s.heap a1 xs)(g2:jc l2 s.heap a2 ys)(R7:xs[k]? = Z\/ys[k]? = Z)(hE:∀h' e,(∀c o,c≠z->c≠uO->c≠i1->c≠i2->s.heap.get? c=J o->h'.get? c=J o)->(∃o,h'.get? e=J o/\o.cls=.type "StopIteration")->E (.ref e) {s with heap:=h'}) :
  Å (Ä prog w) A (Builtin.«zip.__next__» ⟨[.ref z],[]⟩) Q E s:=by
 show Å _ _ (field _ 2 >>= _) _ _ _;refine À (ė hz rfl rfl ?_);refine À (ė hz rfl rfl (À (Ŝ R5 rfl ?_)));refine À ?_;refine À (ė hz rfl rfl (Ë ?_));refine À (ĸ (À (ė hz rfl rfl (À (Θ hz (by simp) λw1 z1 b1=>?_)))));refine À ?_;refine À (À (wpAny_onRaise ?_));cases hx:xs[k]? with
 |none=>
  refine À (zH hh (h1.at λo e=>b1.extBut _ _ D.i1z e) (g1.at λo e=>b1.extBut _ _ D.l1z e) hx λw2 e b2 he=>?_);obtain⟨oe,hoe,hce⟩:=he;have z2:=b2 _ _ D.i1z.symm z1;have nz:e≠z:=λx=>by lia
  exact Θ z2 (by simp) λw3 _ b3=>hE w3 e (λc o c1 _ c3 _ x=>b3.extBut _ _ c1 (b2 _ _ c3 (b1.extBut _ _ c1 x))) ⟨oe,b3.extBut _ _ nz hoe,hce⟩
 |some x=>
  have hy:ys[k]? = Z:=by lia
  refine À (pP (h1.at λo e=>b1.extBut _ _ D.i1z e) (g1.at λo e=>b1.extBut _ _ D.l1z e) hx λw2 n2 b2=>Ë ?_);have t2:=b2.extBut _ _ D.TOi1 (b1.extBut _ _ D.TOz R6);refine À (Ŝ t2 rfl (À (aeO t2 λw3 t3 b3=>?_)));refine À (wpAny_letGo (Ë ?_));refine À (À (wpAny_onRaise ?_));refine À (zH hh (h2.at λo e=>b3.extBut _ _ D.TOi2.symm (b2.extBut _ _ D.i12.symm (b1.extBut _ _ D.i2z e))) (g2.at λo e=>b3.extBut _ _ D.l2TO (b2.extBut _ _ D.l2i1 (b1.extBut _ _ D.l2z e))) hy λw4 e b4 he=>?_);obtain⟨oe,hoe,hce⟩:=he;have z4:=b4 _ _ D.i2z.symm (b3.extBut _ _ D.TOz.symm (b2.extBut _ _ D.i1z.symm z1));have nz:e≠z:=λx=>by lia
  exact Θ z4 (by simp) λw5 _ b5=>hE w5 e (λc o c1 c2 c3 c4 x=>b5.extBut _ _ c1 (b4 _ _ c4 (b3.extBut _ _ c2 (b2.extBut _ _ c3 (b1.extBut _ _ c1 x))))) ⟨oe,b5.extBut _ _ nz hoe,hce⟩
theorem Fm {l1 l2:Bool}{xs:Array ò}{x y p q:ò}{Q:Option ò->Ã->Prop}(D:ZipApart z uI uO i1 i2 a1 a2)(hz:IsZip s.heap z uI uO .none)(R5:ď s.heap uI (.ref i1) (.ref i2))(R6:ď s.heap uO p q)(h1:gu l1 s.heap i1 a1 k)(h2:gu l2 s.heap i2 a2 k)(g1:jc l1 s.heap a1 xs)(g2:jc l2 s.heap a2 ys)(hx:xs[k]? = J x)(hy:ys[k]? = J y)(hQ:∀h',IsZip h' z uI uO (rawInt s.heap.objs.size)->ď h' uO x y->gu l1 h' i1 a1 (k+1)->gu l2 h' i2 a2 (k+1)->ď h' s.heap.objs.size x y->(∀c o,c≠z->c≠uO->c≠i1->c≠i2->s.heap.get? c=J o->h'.get? c=J o)->Q (J (.ref s.heap.objs.size)) {s with heap:=h'}) :
  Å (Ä prog w) A (pyNext (.ref z)) Q E s:=by
 have hT:s.TypeIs (.ref z) "zip":=⟨_,hz,rfl⟩;exact À (Ι (Ř hT ϳ (Ī ϳ hT F.entry_zip_next (Fl D hz R5 R6 h1 h2 g1 g2 hx hy λh' c1 c2 c3 c4 c5 c6=>Ë (hQ h' c1 c2 c3 c4 c5 c6)) (F.args_zip_next_1 _))))
theorem Fo {l1 l2:Bool}{xs:Array ò}{p q:ò}{Q:Option ò->Ã->Prop}(hh:A.handled=Z)(D:ZipApart z uI uO i1 i2 a1 a2)(hz:IsZip s.heap z uI uO .none)(R5:ď s.heap uI (.ref i1) (.ref i2))(R6:ď s.heap uO p q)(h1:gu l1 s.heap i1 a1 k)(h2:gu l2 s.heap i2 a2 k)(g1:jc l1 s.heap a1 xs)(g2:jc l2 s.heap a2 ys)(R7:xs[k]? = Z\/ys[k]? = Z)(hQ:∀h',(∀c o,c≠z->c≠uO->c≠i1->c≠i2->s.heap.get? c=J o->h'.get? c=J o)->Q Z {s with heap:=h'}):Å (Ä prog w) A (pyNext (.ref z)) Q E s:=by
 have hT:s.TypeIs (.ref z) "zip":=⟨_,hz,rfl⟩;refine À (Ι (Ř hT ϳ (Ī ϳ hT F.entry_zip_next (HP hh D hz R5 R6 h1 h2 g1 g2 R7 λh' e hk ⟨o,ho,hc⟩=>?_) (F.args_zip_next_1 _))));exact À (wpAny_isInstance ⟨o,ho,hc⟩ isSubtype_stop (Ë (hQ _ hk)))
end
abbrev WC (l1:Bool)(h:Í)(a1:G):Í:=h.push {cls:=.type (Fh l1),data:=.fields #[.ref a1,.int 0 0]}
abbrev WD (l1 l2:Bool)(h:Í)(a1 a2:G):Í:=(WC l1 h a1).push {cls:=.type (Fh l2),data:=.fields #[.ref a2,.int 0 0]}
abbrev WG (l1 l2:Bool)(h:Í)(a1 a2:G):Í:=(WD l1 l2 h a1 a2).push {cls:=.type "tuple",data:=.seq #[.ref h.objs.size,.ref (WC l1 h a1).objs.size]}
abbrev WH (l1 l2:Bool)(h:Í)(a1 a2:G):Í:=(WG l1 l2 h a1 a2).push {cls:=.type "tuple",data:=.seq #[.none,.none]}
abbrev Ss (l1 l2:Bool)(h:Í)(a1 a2:G):Í:=(WH l1 l2 h a1 a2).push {cls:=.type "zip",data:=.fields #[.none,.bool Y,.bool Y,.ref (WD l1 l2 h a1 a2).objs.size,.ref (WG l1 l2 h a1 a2).objs.size]}
theorem HQ (l1 l2:Bool)(a1 a2:G)(xs ys:Array F):Meets (Builtin.«zip.__new__» ⟨[.type "zip",.ref a1,.ref a2],[]⟩) (λ_ R s=>jc l1 s.heap a1 xs/\jc l2 s.heap a2 ys/\R (.ok (.ret (.ref (WH l1 l2 s.heap a1 a2).objs.size))) {s with heap:=Ss l1 l2 s.heap a1 a2}):=
 .of_wp λprog w A R s h=>by
  obtain⟨hp,g,d,tk,os⟩:=s;obtain⟨g1,g2,h⟩:=h;have sb:=sub_zip;have q1:=g1;have q2:jc l2 (Shared.heap ⟨hp.push {cls:=.type (Fh l1),data:=.fields #[.ref a1,.int 0 0]},g,d,tk,os⟩) a2 ys:=g2.at λo e=>Ö _ e;wp_walk using Dq q1,Dq q2;exact⟨_,rfl,h⟩
section
variable {A:Ñ}
theorem Fp {l1 l2:Bool}{xs:Array ò}(g1:jc l1 s.heap a1 xs)(g2:jc l2 s.heap a2 ys)(h:∀h',IsZip h' (s.heap.objs.size+4) (s.heap.objs.size+2) (s.heap.objs.size+3) .none->ď h' (s.heap.objs.size+2) (.ref s.heap.objs.size) (.ref (s.heap.objs.size+1))->ď h' (s.heap.objs.size+3) .none .none->
   gu l1 h' s.heap.objs.size a1 0->gu l2 h' (s.heap.objs.size+1) a2 0->(∀c o,s.heap.get? c=J o->h'.get? c=J o)->Q (.ref (s.heap.objs.size+4)) {s with heap:=h'}):Å (Ä prog w) A (call (.type "zip") [.ref a1,.ref a2]) Q E s:=by
 refine callType_new F.called_zip (by decide) (F.typeCall_zip_2 _ _) (F.newCall_zip_2 _ _) (λobj=>F.args_object_init_3 obj _ _) F.entry_zip_new (HQ l1 l2 a1 a2 xs ys) ⟨g1,g2,?_⟩;have z1:(WC l1 s.heap a1).objs.size=s.heap.objs.size+1:=Đ ..;have z2:(WD l1 l2 s.heap a1 a2).objs.size=s.heap.objs.size+2:=by rw[Đ,z1]
 have z3:(WG l1 l2 s.heap a1 a2).objs.size=s.heap.objs.size+3:=by rw[Đ,z2]
 have z4:(WH l1 l2 s.heap a1 a2).objs.size=s.heap.objs.size+4:=by rw[Đ,z3]
 have e5:(Ss l1 l2 s.heap a1 a2).get? _=J _:=æ _ rfl;have e4:(Ss l1 l2 s.heap a1 a2).get? _=J _:=Ö _ (æ _ rfl);have e3:(Ss l1 l2 s.heap a1 a2).get? _=J _:=Ö _ (Ö _ (æ _ rfl));have e2:(Ss l1 l2 s.heap a1 a2).get? _=J _:=Ö _ (Ö _ (Ö _ (æ _ rfl)));have e1:(Ss l1 l2 s.heap a1 a2).get? _=J _:=Ö _ (Ö _ (Ö _ (Ö _ (æ _ rfl))));rw[z2,z3,z4] at e5;rw[z1,z2] at e3;rw[z3] at e4;rw[z1] at e2;rw[z4];have mk:∀(l:Bool) (hp:Í) (it a:G) (_:hp.get? it=J {cls:=.type (Fh l),data:=.fields #[.ref a,.int 0 0]}),gu l hp it a 0:=λl hp it a e=>by
  cases l with
  |true=>exact⟨_,e,rfl,rfl⟩
  |false=>exact⟨_,e,rfl,rfl⟩
 exact⟨⟨_,e5,rfl⟩,h _ e5 e3 e4 (mk l1 _ _ _ e1) (mk l2 _ _ _ e2) λc o x=>Ö _ (Ö _ (Ö _ (Ö _ (Ö _ x))))⟩
end
end Hc.Zp
namespace L2
open Hc.Zp
section
variable {T:G}{o:HO}
theorem aP.turnNew {t':Nat}(I:aP X pins L H s)(hf:∀b∈fp,rj X pins H b)(k:∀b o,b∉fp->s.heap.get? b=J o->h'.get? b=J o)(hT:s.heap.objs.size<=T)(new:dE X.prog X.w (cT H T o) h' T o) :
  aP X pins L (cT H T o) {s with heap:=h',toks:=t'}:=by
 have hn:=I.hok.fresh hT;have nf:∀b u,H b=J u->b∉fp:=λb u e z=>by rw[(hf b z).1] at e;cases e
 have nT:∀b u,H b=J u->b≠T:=λb u e z=>by lia
 refine I.step (λb hb=>?_) (λb o _ _ hc e _=>k b o hc e) (λb o _ _ hc e _=>⟨o.slots,k b o hc e⟩) (λb o _ e n=>?_) (λb o hc e=>⟨o,k b o hc e⟩)
  (λb xs e=>?_) (λb o u e=>?_) (λb ps e=>⟨#[],?_⟩) (λm hm=>?_) (λb u e=>?_) I.bare
 ·obtain⟨f0,f1,f2,f3,f4,f5⟩:=hf b hb;exact⟨f3,f1,f4,f5⟩
 ·rw[aL (è (ć (Û e) hT))];exact n
 ·rw[aL (nT b _ e)];exact e
 ·rw[aL (nT b _ e)];exact e
 ·rw[aL (nT b _ e),e];simp
 ·obtain⟨o,es,ep,ho,r⟩:=hm;exact⟨o,es,ep,k _ o (λz=>(hf _ z).2.1 rfl) ho,r⟩
 ·by_cases c:b=T
  ·simp_all[aW]
  ·rw[aL c] at e;refine (I.hok b u e).stay (λc v hc q=>k c v ?_ q) (λc q=>by rw[aL (nT c _ q)];exact q) λc xs q=>by rw[aL (nT c _ q)];exact q
   rcases hc with z|z
   ·rw[z];exact nf b u e
   ·exact nf c _ z
theorem aP.turneds {t':Nat}(I:aP X pins L H s)(hf:∀b∈fp,rj X pins H b)(k:∀b o,b∉fp->s.heap.get? b=J o->h'.get? b=J o):aP X pins L H {s with heap:=h',toks:=t'}:=by
 have nf:∀b u,H b=J u->b∉fp:=λb u e z=>by rw[(hf b z).1] at e;cases e
 refine I.step (λb hb=>?_) (λb o _ _ hc e _=>k b o hc e) (λb o _ _ hc e _=>⟨o.slots,k b o hc e⟩) (λb o _ e n=>n) (λb o hc e=>⟨o,k b o hc e⟩)
  (λb xs e=>e) (λb o u e=>e) (λb ps e=>⟨#[],by rw[e];simp⟩) (λm hm=>?_) (λb u e=>?_) I.bare
 ·obtain⟨f0,f1,f2,f3,f4,f5⟩:=hf b hb;exact⟨f3,f1,f4,f5⟩
 ·obtain⟨o,es,ep,ho,r⟩:=hm;exact⟨o,es,ep,k _ o (λz=>(hf _ z).2.1 rfl) ho,r⟩
 ·refine (I.hok b u e).stay (λc v hc q=>k c v ?_ q) (λ_ q=>q) λ_ _ q=>q;rcases hc with z|z
  ·rw[z];exact nf b u e
  ·exact nf c _ z
def Fq (l:Bool)(K:Ê)(H:Hp)(a:G)(xs:List V):Prop:=if l=M then eI K H a xs else fE K H a xs
theorem aP.sq {l:Bool}(I:aP X pins L H s)(q:Fq l X.K H a xs):∃its,bf xs its/\jc l s.heap a its.toArray:=by
 cases l with
 |true=>obtain⟨its,rv,p,_⟩:=I.list q;exact⟨its,rv,p.isList⟩
 |false=>obtain⟨its,rv,p,_⟩:=I.tuple q;exact⟨its,rv,p⟩
theorem aP.sq_inj {l:Bool}{ys:List V}(I:aP X pins L H s)(q:Fq l X.K H a xs)(q':Fq l X.K H a ys):xs=ys:=by
 cases l with
 |true=>exact I.list_inj q q'
 |false=>exact I.tuple_inj q q'
end
def X8 (K:Ê)(l1 l2:Bool)(a1 a2:G):It:=
  ⟨λi H=>∃xs ys x y,Fq l1 K H a1 xs/\Fq l2 K H a2 ys/\xs[i]? = J x/\ys[i]? = J y,
   λi H v H'=>∃T x y,v=.ref T/\H T=Z/\H'=cT H T (.tup [x,y])/\(∀xs,Fq l1 K H a1 xs->xs[i]? = J x)/\(∀ys,Fq l2 K H a2 ys->ys[i]? = J y),
   λi H=>∃xs ys,Fq l1 K H a1 xs/\Fq l2 K H a2 ys/\(xs.length<=i\/ys.length<=i)⟩
theorem HU {KJ:List É}{kt:Nat}{tp:Pos}{l1 l2:Bool}(D:ZipApart z uI uO i1 i2 a1 a2) :
  Br P w K (.Tuple KJ kt tp) (X8 K l1 l2 a1 a2) [z,uI,uO,i1,i2] z (λi h=>IsZip h z uI uO .none/\ď h uI (.ref i1) (.ref i2)/\(∃p q,ď h uO p q)/\gu l1 h i1 a1 i/\gu l2 h i2 a2 i) where
 mem:=by simp
 obj:=λi h ⟨hz,hI,⟨p,q,hO⟩,h1,h2⟩ b hb=>by
  obtain⟨o1,e1,d1,_⟩:=h1.obj;obtain⟨o2,e2,d2,_⟩:=h2.obj;simp only[à,ţ,or_false] at hb;rcases hb with rfl|rfl|rfl|rfl|rfl
  ·exact⟨_,hz,λv e=>by cases e⟩
  ·exact⟨_,hI,λv e=>by cases e⟩
  ·exact⟨_,hO,λv e=>by cases e⟩
  ·exact⟨o1,e1,λv e=>by rw[d1] at e;cases e⟩
  ·exact⟨o2,e2,λv e=>by rw[d2] at e;cases e⟩
 keep:=λi h h' ⟨hz,hI,⟨p,q,hO⟩,h1,h2⟩ k=>⟨k z (by simp) _ hz,k uI (by simp) _ hI,⟨p,q,k uO (by simp) _ hO⟩,h1.at λo e=>k i1 (by simp) o e,h2.at λo e=>k i2 (by simp) o e⟩
 item:=by
  intro X hP hw hK hc i pins s L H E I hf st hg;subst hP hw hK;obtain⟨hz,hI,⟨p,q,hO⟩,h1,h2⟩:=st;obtain⟨xs,ys,x,y,q1,q2,hx,hy⟩:=hg;obtain⟨is1,v1,g1⟩:=I.sq q1;obtain⟨is2,v2,g2⟩:=I.sq q2;obtain⟨u1,yR,r1⟩:=v1.get hx;obtain⟨u2,hu2,r2⟩:=v2.get hy;obtain⟨o1,e1,_,_⟩:=h1.obj;obtain⟨o2,e2,_,_⟩:=h2.obj;have lz:=Û hz;have lI:=Û hI;have lO:=Û hO;have ZG:=Û e1;have ZH:=Û e2;refine Fm D hz hI hO h1 h2 g1 g2 (by simpa using yR) (by simpa using hu2) λh' c1 c2 c3 c4 c5 kp=>⟨_,rfl,?_⟩;refine wpAny_letOwnedTupleGo_zip c1 λVR z2 sb=>?_;have R3:=sb.extBut _ _ (Ŕ lz) c5;have ZI:∀b o,b∉[z,uI,uO,i1,i2]->s.heap.get? b=J o->VR.get? b=J o:=λb o hb e=>by
   simp only[à,ţ,or_false,not_or] at hb;exact sb.extBut _ _ hb.1 (kp b o hb.1 hb.2.2.1 hb.2.2.2.1 hb.2.2.2.2 e)
  have I2:aP X pins L (cT H _ (.tup [x,y])) _:=I.turnNew (t':=s.toks) hf ZI (Ð _) ⟨by rw[ī];simp,[u1,u2],.cons r1 (.cons r2 .nil),⟨_,R3,rfl,_,rfl⟩,_,R3⟩;have fr:=I.hok.fresh (Ð _);refine⟨.ref _,_,I2,rfl,⟨_,x,y,rfl,fr,rfl,λzs hq=>by rw[I.sq_inj hq q1];exact hx,λzs hq=>by rw[I.sq_inj hq q2];exact hy⟩,⟨z2,?_,⟨u1,u2,?_⟩,?_,?_⟩,λb hb=>?_⟩
  ·exact sb.extBut _ _ D.TIz (kp _ _ D.TIz D.TITO D.TIi1 D.TIi2 hI)
  ·exact sb.extBut _ _ D.TOz c2
  ·exact c3.at λo e=>sb.extBut _ _ D.i1z e
  ·exact c4.at λo e=>sb.extBut _ _ D.i2z e
  ·have hn:b≠s.heap.objs.size:=by
    simp only[à,ţ,or_false] at hb;rcases hb with rfl|rfl|rfl|rfl|rfl
    ·exact è lz
    ·exact è lI
    ·exact è lO
    ·exact è ZG
    ·exact è ZH
   rw[aL hn];exact (hf b hb).1
 done:=by
  intro X hP hw hK hc i pins s L H E I hf st hg;subst hP hw hK;obtain⟨hz,hI,⟨p,q,hO⟩,h1,h2⟩:=st;obtain⟨xs,ys,q1,q2,he⟩:=hg;obtain⟨is1,v1,g1⟩:=I.sq q1;obtain⟨is2,v2,g2⟩:=I.sq q2;have n1:=v1.length;have n2:=v2.length;refine Fo (I.ok.hd hc) D hz hI hO h1 h2 g1 g2 (by
   rcases he with he|he
   ·exact .inl (by simp;lia)
   ·exact .inr (by simp;lia)) λh' kp=>⟨rfl,I.turneds hf λb o hb e=>?_⟩
  simp only[à,ţ,or_false,not_or] at hb;exact kp b o hb.1 hb.2.2.1 hb.2.2.2.1 hb.2.2.2.2 e
 self:=λ_ _ _ _ _ st h=>wpAny_pyIter_zip st.1 h
section
variable {KJ:List É}{kt:Nat}{tp p:Pos}{a b:É}
def Qe:þ "zip"=J (.type "zip"):=by rfl
def WI (K:Ê)(ta:TA):TI:=λL H R=>ta L H λvs H1=>∃l1 l2 a1 a2 xs ys,vs=[.ref a1,.ref a2]/\Fq l1 K H1 a1 xs/\Fq l2 K H1 a2 ys/\R (X8 K l1 l2 a1 a2) H1
theorem Qf {ta:TA}(hg:Gl X "zip")(hm:X.mg "zip"=Z)(ha:PA X [a,b] ta)(hs:Ç [a,b] X.env=[(Y,Ì a X.env),(Y,Ì b X.env)]:=by rfl)(iK:Ç [b] X.env=[(Y,Ì b X.env)]:=by rfl) :
  PI X (.Tuple KJ kt tp) (.Call (.Name "zip" p) [a,b] [] pos) (WI X.K ta):=by
 intro pins s L H R I h;refine Call_ (sM I hg hm Qe (adF (cU (ha pos pins s L H _ I h) λus s1 h00=>?_) (by rw[hs,iK]) (by rw[iK];rfl)));obtain⟨vs,H1,I1,r1,q1⟩:=h00;obtain⟨l1,l2,a1,a2,xs,ys,rfl,g1,g2,q⟩:=q1;cases r1 with
 |cons r rr=>
  cases rr with
  |cons r' rr=>
   cases rr;cases r;cases r';obtain⟨is1,v1,m1⟩:=I1.sq g1;obtain⟨is2,v2,m2⟩:=I1.sq g2;have lt:∀(l:Bool) (c:G) (zs:Array F),jc l s1.heap c zs->c<s1.heap.objs.size:=λl c zs hq=>by
    cases l with
    |true=>obtain⟨_,e,_⟩:=hq;exact Û e
    |false=>obtain⟨_,e,_⟩:=hq;exact Û e
   refine Fp m1 m2 λh' z1 z2 z3 z4 z5 kp=>wpAny_pyIter_zip z1 ?_;refine⟨_,[s1.heap.objs.size+4,s1.heap.objs.size+2,s1.heap.objs.size+3,s1.heap.objs.size,s1.heap.objs.size+1],_,_,H1,rfl,I1.kept λb o e=>kp b o e,HU (zipApart_new (lt l1 a1 _ m1) (lt l2 a2 _ m2)),⟨z1,z2,⟨_,_,z3⟩,z4,z5⟩,λb hb=>?_,q⟩;have hb:s1.heap.objs.size<=b:=by
    simp only[à,ţ,or_false] at hb;rcases hb with rfl|rfl|rfl|rfl|rfl
    ·exact İ _ _
    ·exact İ _ _
    ·exact İ _ _
    ·exact Ð _
    ·exact İ _ _
   exact I1.fpOk hb (I1.hok.fresh hb)
end
noncomputable def Fs:U->Option (List U)
 | .lst us=>J us
 | .tup us=>J us
 |_=>Z
def L3 (ga:Ev->R (List U×Ev)):Ev->R (List U×Ev):=λB=>(ga B).bind λx=>match x.1 with
 | [u,w]=>match Fs u,Fs w with
  |some us,J ws=>.ok (List.zipWith (λa b=>.tup [a,b]) us ws,x.2)
  |_,_=>.stk
 |_=>.stk
section
variable {G:Gm}{KJ:List É}{kt:Nat}{tp p1:Pos}{a b:É}{b1:Bool}{ga:Ev->R (List U×Ev)}
theorem HV (e:Fs u=J us)(h:Rp K H A u v):∃l a xs,v=.ref a/\us.length<=Â/\ba K H A us xs/\Fq l K H a xs/\∀H',eQ A H H'->(∀b,A b->Mu (H b))->Fq l K H' a xs:=by
 unfold Fs at e;split at e;rotate_right
 ·cases e
 rotate_left
 ·cases e;obtain⟨a,xs,rfl,q,l,z⟩:=h;exact⟨Y,a,xs,rfl,l,z,fE.of q,λH' x mu=>fE.of (x a _ (λy=>by have:=mu a y;rw[q] at this;exact this) q)⟩
 ·cases e;obtain⟨a,xs,rfl,na,q,l,z⟩:=h;exact⟨M,a,xs,rfl,l,z,eI.of q,λH' x mu=>eI.of (x a _ na q)⟩
theorem Qg (ha:DA X G [a,b] b1 Y ga)(hm:X.mg "zip"=Z)(hg:Gl X "zip":=by rfl)(hs:Ç [a,b] X.env=[(Y,Ì a X.env),(Y,Ì b X.env)]:=by rfl)(iK:Ç [b] X.env=[(Y,Ì b X.env)]:=by rfl) :
  DI X G (.Tuple KJ kt tp) (.Call (.Name "zip" p1) [a,b] [] pos) b1 Y (L3 ga):=⟨(Qf hg hm ha.un hs iK).to λL H RR h00=>by
 obtain⟨Zq,A,B,q,f⟩:=h00;unfold L3 at f;cases e1:ga B with
 |stk=>rw[e1] at f;exact f.elim
 |exc=>rw[e1] at f;exact f.elim
 |ok y=>
  obtain⟨us,B1⟩:=y;rw[e1] at f;dsimp only[L2.R.bind] at f;refine⟨Zq,A,B,q,?_⟩;rw[e1];intro vs H1 q1 x1 s1 vm;split at f
  ·rename_i R0 B' e2;split at e2
   ·split at e2
    ·rename_i as bs ea eb;cases e2;have r:=vm.rps;obtain⟨v,vr,rfl,r1,r2⟩:=r;obtain⟨v',vr',rfl,r3,r4⟩:=r2;subst r4;obtain⟨l1,a1,xs,rfl,n1,z1,k1,CC⟩:=HV ea r1;obtain⟨l2,a2,ys,rfl,n2,z2,k2,nE⟩:=HV eb r3;refine⟨l1,l2,a1,a2,xs,ys,rfl,k1,k2,f _ H1 q1 x1 s1 ⟨?_,λH2 A' hx CG=>?_⟩⟩
     ·rw[List.length_zipWith];exact ä (Nat.min_le_left _ _) n1
     ·have XH:=CC H2 hx q1.mu;have XI:=nE H2 hx q1.mu;have w1:=z1.re q1.mu hx CG;have w2:=z2.re q1.mu hx CG;refine⟨λi u hu=>?_,⟨xs,ys,XH,XI,?_⟩⟩
      ·rw[List.getElem?_zipWith] at hu;cases hA:as[i]? with
       |none=>rw[hA] at hu;cases hu
       |some ua=>cases hB:bs[i]? with
        |none=>rw[hA,hB] at hu;cases hu
        |some ub=>
         rw[hA,hB] at hu;cases hu;obtain⟨x,hx1,px⟩:=w1.get hA;obtain⟨y,hy1,py⟩:=w2.get hB;refine⟨⟨xs,ys,x,y,XH,XI,hx1,hy1⟩,λx' H' yl=>?_⟩;obtain⟨T,x2,y2,rfl,hT,rfl,g1,g2⟩:=yl;have ex:x2=x:=by have:=g1 xs XH;rw[hx1] at this;cases this;rfl
         have ey:y2=y:=by have:=g2 ys XI;rw[hy1] at this;cases this;rfl
         subst ex ey;have sm:=cK hT (.tup [x2,y2]);refine⟨sm,?_⟩;exact⟨T,_,rfl,aW,by have:Â=16777216:=rfl;rw[this];simp,ba.cons (px.same sm) (ba.cons (py.same sm) ba.nil)⟩
      ·rw[List.length_zipWith,<-z1.length,<-z2.length];rcases Nat.le_total as.length bs.length with z|z
       ·exact .inl (by rw[ŧ z];exact Ð _)
       ·exact .inr (by rw[Nat.min_eq_right z];exact Ð _)
    ·cases e2
   ·cases e2
  ·exact f.elim⟩
end
end L2
namespace L2
def nr {α:Sort _}{a b:α}(h:a=b):a=b:=h
noncomputable def look (o:Option (Option U))(B:Ev):R (U×Ev):=match o with
 |some (J u)=>.ok (u,B)
 |_=>.stk
noncomputable def X9 (u:U)(B:Ev):R (Bool×Ev):=match u with
 | .bl c=>.ok (c,B)
 |_=>.stk
noncomputable def Vz (o:Option U):R U:=match o with
 |some u=>.ok u
 |none=>.stk
noncomputable def SR.seq (r:SR)(g:Ev->SR):SR:=match r with
 | .nx B=>g B
 |r=>r
noncomputable def SR.turn (r:SR)(g:Ev->SR):SR:=match r with
 | .nx B=>g B
 | .ct B=>g B
 | .bk B=>.nx B
 |r=>r
noncomputable def Qh (m:Md)(r:SR):R U:=match r with
 | .rt u _=>.ok u
 | .nx _=>if m=.S then .ok .non else .stk
 | .exc c u=>.exc c u
 |_=>.stk
noncomputable def io0 (u:U)(o:Option (Option U)):R (U×U):=match o with
 |some (J w)=>.ok (u,w)
 |_=>.stk
def Qi (r:SR):R (U×U):=match r with
 | .rt u B=>io0 u B[0]?
 | .nx B=>io0 .non B[0]?
 | .exc c u=>.exc c u
 |_=>.stk
section
variable {w:U}{n:Nat}{α β:Type}{g g1 g2 g3:Ev->R (U×Ev)}{h h1 h2:Ev->R (Bool×Ev)}{s s1 s2:Ev->SR}{ga:Ev->R (List U×Ev)}{m:Md}{ws:List U}
def NA:af i B=look B[i]? B:=nr rfl
def HW:look (J (J u)) B=.ok (u,B):=nr rfl
def X_:gC u B=.ok (u,B):=nr rfl
def Ft {a:α}{f:α->R β}:(R.ok a).bind f=f a:=nr rfl
def HX {a:α}{f:α->SR}:SR.of (R.ok a) f=f a:=nr rfl
def TJ {p:U->U->R U}:aI p g1 g2 B=(g1 B).bind λx=>(g2 x.2).bind λy=>(p x.1 y.1).bind λz=>.ok (z,y.2):=nr rfl
def Ya:gB g B=(g B).bind λx=>X9 x.1 x.2:=nr rfl
def NC {c:Bool}:X9 (.bl c) B=.ok (c,B):=nr rfl
def HY:LD h1 h2 B=(h1 B).bind λx=>if x.1=M then h2 x.2 else .ok (Y,x.2):=nr rfl
def ND:ze h1 h2 B=(h1 B).bind λx=>if x.1=M then .ok (M,x.2) else h2 x.2:=nr rfl
def HZ:jq h B=(h B).bind λx=>.ok (!x.1,x.2):=nr rfl
def NF:kE g1 g2 B=(gB g1 B).bind λx=>if x.1=M then g2 x.2 else .ok (.bl Y,x.2):=nr rfl
def NG:LH g B=(gB g B).bind λx=>.ok (.bl (!x.1),x.2):=nr rfl
def TM:Wm h g1 g2 B=(h B).bind λx=>if x.1=M then g1 x.2 else g2 x.2:=nr rfl
def Yb (p':U->U->R U)(g3:Ev->R (U×Ev))(y:U×Ev)(z:U):R (U×Ev):=match z with
 | .bl k=>if k=M then (g3 y.2).bind λw=>(p' y.1 w.1).bind λz'=>.ok (z',w.2) else .ok (.bl Y,y.2)
 |_=>.stk
def Dr {p p':U->U->R U}:jG p p' g1 g2 g3 B=(g1 B).bind λx=>(g2 x.2).bind λy=>(p x.1 y.1).bind λz=>Yb p' g3 y z:=nr rfl
def NH {p':U->U->R U}{y:U×Ev}{k:Bool}:Yb p' g3 y (.bl k)=if k=M then (g3 y.2).bind λw=>(p' y.1 w.1).bind λz'=>.ok (z',w.2) else .ok (.bl Y,y.2):=nr rfl
def H0:ao B=.ok ([],B):=nr rfl
def Dt:ae g ga B=(g B).bind λx=>(ga x.2).bind λy=>.ok (x.1::y.1,y.2):=nr rfl
def H9:eD ga B=(ga B).bind λx=>if x.1.length<=Â then .ok (.tup x.1,x.2) else .stk:=nr rfl
def H_:fZ ga B=(ga B).bind λx=>if x.1.length<=Â then .ok (.lst x.1,x.2) else .stk:=nr rfl
def TQ {p:List U->R U}:dq p ga B=(ga B).bind λx=>(p x.1).bind λz=>.ok (z,x.2):=nr rfl
def TR {f:List U->R U}:dz n f ga B=(ga B).bind λx=>(tj n f x.1).bind λz=>.ok (z,x.2):=nr rfl
def NI {f:List U->R α}(h:us.length=n):tj n f us=f us:=hV h
def Yc (n:Nat)(f:List U->R (U×U))(us:List U)(i:Nat)(B:Ev)(o:Option (Option U)):R (U×Ev):=match o with
 |some (J u0)=>(tj n f (u0::us)).bind λz=>.ok (z.1,B.set i (J z.2))
 |_=>.stk
def NJ {f:List U->R (U×U)}:Yc n f us i B (J (J u))=(tj n f (u::us)).bind λz=>.ok (z.1,B.set i (J z.2)):=nr rfl
noncomputable def Du (o:Option (Option U)):Bool:=match o with
 |some (J _)=>M
 |_=>Y
def Dv:Du (J (J u))=M:=nr rfl
def TU {f:List U->R (U×U)}:jr n i f ga B=if Du B[i]? = M then (ga B).bind λx=>Yc n f x.1 i x.2 x.2[i]? else .stk:=nr rfl
def WK (i:Nat)(p:U->List U->R (U×U))(us:List U)(B:Ev)(o:Option (Option U)):R (U×Ev):=match o with
 |some (J u0)=>(p u0 us).bind λz=>.ok (z.1,B.set i (J z.2))
 |_=>.stk
def NK {p:U->List U->R (U×U)}:WK i p us B (J (J u))=(p u us).bind λz=>.ok (z.1,B.set i (J z.2)):=nr rfl
def Yd (T:String)(i:Nat)(p:U->List U->R (U×U))(ga:Ev->R (List U×Ev))(B:Ev)(o:Option (Option U)):R (U×Ev):=match o with
 |some (J u1)=>if E3 u1 T=M then (ga B).bind λx=>WK i p x.1 x.2 x.2[i]? else .stk
 |_=>.stk
def NL {T:String}{p:U->List U->R (U×U)}:Yd T i p ga B (J (J u))=if E3 u T=M then (ga B).bind λx=>WK i p x.1 x.2 x.2[i]? else .stk:=nr rfl
def Ye {T:String}{p:U->List U->R (U×U)}:gM T i p ga B=Yd T i p ga B B[i]? := nr rfl
def Ia:E3 (.lst us) "list"=M:=nr rfl
def Dx:dw B=.ok (Z,B):=nr rfl
noncomputable def Yf (u:U)(B:Ev):R (Option Int×Ev):=match u with
 | .int i=>.ok (J i,B)
 |_=>.stk
def NM {k:Int}:Yf (.int k) B=.ok (J k,B):=nr rfl
def Dy:cV g B=(g B).bind λx=>Yf x.1 x.2:=nr rfl
def TV {p:U->Option Int->Option Int->R U}{lo hi:Ev->R (Option Int×Ev)}:qm p g lo hi B=(g B).bind λx=>(lo x.2).bind λl=>(hi l.2).bind λh=>(p x.1 l.1 h.1).bind λz=>.ok (z,h.2):=nr rfl
def jd (T:String)(u:U)(B:Ev):R (U×Ev):=if Sq u="script" then .stk else .ok (.bl (kC (Sq u) T),B)
def Ib {T:String}:f6 T g B=(g B).bind λx=>jd T x.1 x.2:=nr rfl
def Ic:bg B=.nx B:=nr rfl
def NN:aG s1 s2 B=(s1 B).seq s2:=nr rfl
def Ig:(SR.nx B).seq s=s B:=nr rfl
def Ih:(SR.rt u B).seq s=.rt u B:=nr rfl
def Ik:j7 g B=SR.of (g B) λx=>.nx x.2:=nr rfl
def NO:bb g B=SR.of (g B) λx=>.rt x.1 x.2:=nr rfl
def NP:bL i g B=SR.of (g B) λx=>.nx (x.2.set i (J x.1)):=nr rfl
def NR:fz h s1 s2 B=SR.of (h B) λx=>if x.1=M then s1 x.2 else s2 x.2:=nr rfl
noncomputable def Yg (i j:Nat)(B:Ev)(o:Option (Option U)):SR:=match o with
 |some (J u)=>.nx ((B.set j Z).set i (J u))
 |_=>.stk
def Il:zh i j B=Yg i j B B[j]? := nr rfl
def NT:Yg i j B (J (J u))=.nx ((B.set j Z).set i (J u)):=nr rfl
def VA (i:Nat)(v k:U)(B:Ev)(o:Option (Option U)):SR:=match k with
 | .int k=>match o with
  |some (J (.lst us))=>match EV us.length k with
   |some j=>.nx (B.set i (J (.lst (us.set j v))))
   |none=>.stk
  |_=>.stk
 |_=>.stk
def Io:C4 i g1 g2 B=SR.of (g1 B) λx=>if Du x.2[i]? = M then SR.of (g2 x.2) λy=>VA i x.1 y.1 y.2 y.2[i]? else .stk:=nr rfl
def TY {k:Int}(h:EV us.length k=J j):VA i w (.int k) B (J (J (.lst us)))=.nx (B.set i (J (.lst (us.set j w)))):=by
 unfold VA;dsimp only;rw[h]
def TZ (i:Nat)(p:U->U->R U)(g:Ev->R (U×Ev))(B:Ev)(o:Option (Option U)):SR:=match o with
 |some (J u)=>SR.of (g B) λy=>SR.of (p u y.1) λz=>.nx (y.2.set i (J z))
 |_=>.stk
def NV {p:U->U->R U}:BM i p g B=TZ i p g B B[i]? := nr rfl
def Iq {p:U->U->R U}:TZ i p g B (J (J u))=SR.of (g B) λy=>SR.of (p u y.1) λz=>.nx (y.2.set i (J z)):=nr rfl
def NW {gi:Ev->R (List U×Ev)}{sg:U->Ev->R Ev}:vE gi sg s B=SR.of (gi B) λx=>kF sg s x.1 x.2:=nr rfl
def Ir:kF sg s (u::us) B=SR.of (sg u B) λB1=>(s B1).turn (kF sg s us):=nr rfl
def DL:jI h s (n+1) B=SR.of (h B) λx=>if x.1=M then (s x.2).turn (jI h s n) else .nx x.2:=nr rfl
noncomputable def L4 (u:U)(B:Ev):R (List U×Ev):=match u with
 | .lst us=>.ok (us,B)
 | .tup us=>.ok (us,B)
 | .scr us=>.ok (us,B)
 |_=>.stk
def Iu:d6 g B=(g B).bind λx=>L4 x.1 x.2:=nr rfl
def Iv:L4 (.lst us) B=.ok (us,B):=nr rfl
def Iw:L4 (.tup us) B=.ok (us,B):=nr rfl
def L5 (us:List U)(B:Ev):R (List U×Ev):=match us with
 | [.int j]=>if -1000000<=j/\j<=1000000 then .ok (aN 0 j.toNat,B) else .stk
 |_=>.stk
def Iz:ig ga B=(ga B).bind λx=>L5 x.1 x.2:=nr rfl
def Qj {k:Int}:L5 [.int k] B=if -1000000<=k/\k<=1000000 then .ok (aN 0 k.toNat,B) else .stk:=nr rfl
def IA (us:List U)(B:Ev):R (U×Ev):=match us with
 | [.int j]=>if zA 0 j=M then .ok (.lst (aN 0 (j-0).toNat),B) else .stk
 |_=>.stk
def IB (us:List U)(B:Ev):R (U×Ev):=match us with
 | [.int j]=>if zA 0 j=M then .ok (.tup (aN 0 (j-0).toNat),B) else .stk
 |_=>.stk
def IC:Dg ga B=(ga B).bind λx=>IA x.1 x.2:=nr rfl
def ID:HC ga B=(ga B).bind λx=>IB x.1 x.2:=nr rfl
theorem NY {k:Int}(h0:0<=k)(h1:k<=1000000):zA 0 k=M:=by
 unfold zA;(simp;lia)
theorem DM (n:Nat)(h:n<=1000000):IA [.int n] B=.ok (.lst (aN 0 n),B):=by
 unfold IA;dsimp only;rw[hV (NY (by lia) (by lia)),show ((n:Int)-0).toNat=n by rfl]
theorem om (n:Nat)(h:n<=1000000):IB [.int n] B=.ok (.tup (aN 0 n),B):=by
 unfold IB;dsimp only;rw[hV (NY (by lia) (by lia)),show ((n:Int)-0).toNat=n by lia]
theorem jL (n:Nat)(h:n<=1000000):L5 [.int n] B=.ok (aN 0 n,B):=by
 rw[Qj,hV (by (simp;lia))];rfl
def NZ {gi:Ev->R (List U×Ev)}{js:List (Option Nat)}{sg:U->Ev->R Ev}:dH gi js sg h g B=(gi B).bind λx=>(iS (j8 js sg h g x.2) x.1).bind λys=>.ok (.lst ys,x.2):=nr rfl
def N0 {G:Gm}{gi:Ev->R (List U×Ev)}{js:List (Option Nat)}{sg:U->Ev->R Ev}:vF G gi js sg h g B=(gi B).bind λx=>(rA G js sg h g x.1 x.2).bind λy=>.ok (.lst y.1,y.2):=nr rfl
def N1 {js:List (Option Nat)}{sg:U->Ev->R Ev}:j8 js sg h g B u=(sg u (fG js B)).bind λBi=>(h Bi).bind λc=>if c.1=M then (g Bi).bind λy=>.ok (J y.1) else .ok Z:=nr rfl
def Qk {G:Gm}:rA G js sg h g (u::us) B=(sg u (fG js B)).bind λBi=>(h Bi).bind λc=>if c.1=M then (g c.2).bind λy=>(rA G js sg h g us (wb G js y.2 B)).bind λr=>.ok (y.1::r.1,r.2) else rA G js sg h g us (wb G js c.2 B):=nr rfl
def IF:bK B=.ok (M,B):=nr rfl
def N2:cx i u B=.ok (B.set i (J u)):=nr rfl
def IG:cR m n s us=Qh m (s (bF n us)):=nr rfl
def DP:Qh m (.rt u B)=.ok u:=nr rfl
def IH:kH n s us=Qi (s (bF n us)):=nr rfl
def DQ:Qi (.rt u B)=io0 u B[0]? := nr rfl
def N3:io0 u (J (J w))=.ok (u,w):=nr rfl
def zI {B:Ev}:fG [] B=[]:=nr rfl
def wI {js:List (Option Nat)}:fG (Z::js) B=Z::fG js B:=nr rfl
theorem wJ {js:List (Option Nat)}:fG (J j::js) B=(B[j]?).getD Z::fG js B:=by
 unfold fG;rw[å];dsimp only;cases B[j]? <;> rfl
end
section
variable {i j k:Int}{ws:List U}{w:U}{lo hi:Option Int}
def II:de (.int i) (.int j)=.ok (.int (i+j)):=nr rfl
def IJ:de (.tup us) (.tup ws)=if us.length+ws.length<=Â then .ok (.tup (us++ws)) else .stk:=nr rfl
def IK:de (.lst us) (.lst ws)=if us.length+ws.length<=Â then .ok (.lst (us++ws)) else .stk:=nr rfl
def N4:tJ (.int i) (.int j)=.ok (.int (i-j)):=nr rfl
def N5:kI (.int i) (.int j)=if n8 i j=M then .ok (.int (i*j)) else .stk:=nr rfl
def IL:zq (.int i) (.int j)=if BN i j=M then .ok (.int (i / j)) else .stk:=nr rfl
def N6:zu (.int i) (.int j)=if decide (0<j)=M then .ok (.int (i % j)) else .stk:=nr rfl
def N7:LS (.int i) (.int j)=if LQ i j=M then .ok (.int (i ^ j.toNat)) else .stk:=nr rfl
def T3:Hz (.int i) (.int j)=.ok (.bl (decide (i<j))):=nr rfl
def T4:KW (.int i) (.int j)=.ok (.bl (decide (i<=j))):=nr rfl
def pQ:Gi (.int i) (.int j)=.ok (.bl (decide (j<i))):=nr rfl
def T5:Ww (.int i) (.int j)=.ok (.bl (decide (j<=i))):=nr rfl
theorem N9:c7 (.lst us) (.int i)=Vz (kz us i):=by rfl
theorem N_:c7 (.tup us) (.int i)=Vz (kz us i):=by rfl
theorem Oa:c7 (.scr us) (.int i)=Vz (kz us i):=by rfl
def Ob:Vz (J u)=.ok u:=nr rfl
def Od:n_ (.tup us) lo hi=.ok (.tup (jt us lo hi)):=nr rfl
def IM:dI [.lst us]=.ok (.int us.length):=nr rfl
def IP:dI [.tup us]=.ok (.int us.length):=nr rfl
def IQ:dI [.scr us]=.ok (.int us.length):=nr rfl
def IS:fH [.lst us]=.ok (.tup us):=nr rfl
def IW:zw [.int i,.int j]=.ok (.int (if j<i then j else i)):=nr rfl
def IX:C_ [.int i,.int j]=.ok (.int (if j>i then j else i)):=nr rfl
def T6 {f:Bool->Bool}:lP f u w=(n9 u w).bind λb=>.ok (.bl (f b)):=nr rfl
theorem oq (n:Nat):kz us (n:Int)=us[n]? := by
 unfold kz EV;by_cases h:n<us.length
 ·rw[hV (by lia),hV (by simp[*])];rfl
 ·rw[hV (by lia),hU (by simp[*])];rw[Ϙ.mpr (by lia)];rfl
def Oh:kz us 0=us[0]? := oq 0
def Oi:kz us 1=us[1]? := oq 1
def Oj:kz us 2=us[2]? := oq 2
theorem T7 (h:0<us.length):EV us.length 0=J 0:=by simp_all[EV,hV]
def xK (h0:0<j)(h1:j<18446744073709551616):BN i j=M:=by unfold BN;simp[h0,h1]
theorem pR (h0:0<=i)(h1:i<18446744073709551616):n8 i j=M:=by
 unfold n8;lia
theorem Ql (h0:0<=j)(h1:j<18446744073709551616):n8 i j=M:=by
 unfold n8;simp only[ϰ,é,decide_eq_true_eq];exact .inr ⟨by lia,by simp[*]⟩
end
end L2
namespace L2
theorem DR {i:Nat}{w u:U}{us:List U}{B:Ev}:VA i w (.int 0) B (J (J (.lst (u::us))))=.nx (B.set i (J (.lst (w::us)))):=by
 rw[TY (T7 (by rw[Ò];lia))];rfl
theorem ju {G:Gm}{js:List (Option Nat)}{sg:U->Ev->R Ev}{ge:Ev->R (U×Ev)}{L:Type}(ev:L->Ev)(N:Nat)(I:List U->L->Prop)
  (step:∀done u s,done.length<N->I done s->∃Bi y Bi' s',sg u (fG js (ev s))=.ok Bi/\ge Bi=.ok (y,Bi')/\wb G js Bi' (ev s)=ev s'/\I (done++[y]) s') :
  ∀(us done:List U) (s:L),done.length+us.length<=N->I done s->∃ys s',rA G js sg bK ge us (ev s)=.ok (ys,ev s')/\ys.length=us.length/\I (done++ys) s'
 | [],done,s,_,h=>⟨[],s,rfl,rfl,by rw[ā];exact h⟩
 |u::us,done,s,hl,h=>by
  rw[Ò] at hl;obtain⟨Bi,y,Bi',s',e1,e2,e3,h'⟩:=step done u s (by lia) h;obtain⟨ys,RQ,e4,e5,h''⟩:=ju ev N I step us _ s' (by rw[Þ,Ϝ];lia) h';refine⟨y::ys,RQ,?_,by rw[Ò,Ò,e5],by rw[õ] at h'';exact h''⟩;rw[Qk,e1,Ft,IF,Ft,hV rfl,e2,Ft,e3,e4,Ft]
theorem gW {s:Ev->SR}(I:Nat->Ev->Prop)(step:∀(i:Nat) (u:U) (B:Ev),us[i]? = J u->I i B->∃B1 B2,sg u B=.ok B1/\(s B1=.nx B2\/s B1=.ct B2)/\I (i+1) B2)(h:I 0 B) :
  ∃B',kF sg s us B=.nx B'/\I us.length B':=by
 have gen:∀(n i:Nat) (B:Ev),i+n=us.length->I i B->∃B',kF sg s (us.drop i) B=.nx B'/\I us.length B':=by
  intro n
  induction n with
  |zero=>
   intro i B hi h;have:i=us.length:=by lia
   subst this;rw[Ϡ];exact⟨B,rfl,h⟩
  |succ n ih=>
   intro i B hi h;have CB:i<us.length:=by lia
   obtain⟨B1,B2,e1,e2,h2⟩:=step i us[i] B (Ø CB) h;obtain⟨B',e3,h3⟩:=ih (i+1) B2 (by lia) h2;refine⟨B',?_,h3⟩;rw[ξ CB,Ir,e1,HX];rcases e2 with e2|e2<;>(rw[e2];exact e3)
 have:=gen us.length 0 B (by lia) h
 rwa [List.drop_zero] at this
theorem iT {f:U->R (Option U)}{g:U->U}:∀{us:List U},(∀u∈us,f u=.ok (J (g u)))->iS f us=.ok (us.map g)
 | [],_=>rfl
 |u::us,h=>by
  unfold iS;rw[h u Ú,iT λw hw=>h w (Ý _ hw)];rfl
def Gj (u:U):Prop:=∃d,iN u=J d/\du d<=20
theorem pS (ns:List Int):ij (ns.map .int)=J (ns.map .int):=by
 induction ns with
 |nil=>rfl
 |cons n ns ih=>rw[å];unfold ij;rw[ih];rfl
theorem mX (ns:List Int):jn (ns.map .int)=0:=by
 induction ns with
 |nil=>rfl
 |cons n ns ih=>rw[å];unfold jn;rw[ih];rfl
theorem lT:∀(ns ms:List Int),kh (ns.map .int) (ms.map .int)=decide (ns=ms)
 | [],[]=>by rfl
 | [],m::ms=>by simp[kh]
 |n::ns,[]=>by simp[kh]
 |n::ns,m::ms=>by
  rw[å,å];unfold kh i7;rw[lT ns ms,Γ];simp
theorem L6 (ns ms:List Int):n9 (.lst (ns.map .int)) (.lst (ms.map .int))=.ok (decide (ns=ms)):=by
 unfold n9;have e1:∀ns:List Int,iN (.lst (ns.map .int))=J (.lst (ns.map .int)):=λns=>by unfold iN;rw[pS];rfl
 simp_all[hV,du,mX,i7,lT]
theorem IY (ns ms:List Int):n9 (.tup (ns.map .int)) (.tup (ms.map .int))=.ok (decide (ns=ms)):=by
 unfold n9;have e1:∀ns:List Int,iN (.tup (ns.map .int))=J _:=λns=>by unfold iN;rw[pS];rfl
 simp_all[hV,du,mX,i7,lT]
def cH (a b:Int):n9 (.int a) (.int b)=.ok (a==b):=by
 rfl
noncomputable def aY (n:Nat):List Int:=(ê n).map λi=>(i:Nat)
def iy (n:Nat):aN 0 n=(aY n).map .int:=by
 simp[aN,aY,ö,Ο,Int.zero_add]
def fI (n:Nat):(aY n).length=n:=by unfold aY;rw[Æ,ĝ]
theorem BW {n:Nat}{x:Int}:x∈aY n↔0<=x/\x<n:=by
 unfold aY;rw[á];constructor
 ·rintro⟨i,h,rfl⟩;have:=Č.mp h;simp[*]
 ·intro h;exact⟨x.toNat,Č.mpr (by simp[*]),by (simp;lia)⟩
def cE (us:List U)(c:U->Bool):l8 [.lst (us.map λu=>.bl (c u))]=.ok (.bl (us.all c)):=by
 have e:us.map (λu=>U.bl (c u))=(us.map c).map .bl:=by rw[ö];rfl
 unfold l8;dsimp only;rw[e,E7];dsimp only;rw[υ];rfl
def Fu (h:ns.length<64):tP [.tup (ns.map .int)]=.ok (.lst ((qo ns).map .int)):=by
 simp_all[tP,iq,hV]
end L2
namespace L2
def qu {B:Ev}:jd "bool" (.non) B=.ok (.bl Y,B):=(hU (by decide)).trans (congrArg (λz=>R.ok (U.bl z,B)) (by decide))
def tV {B:Ev}:jd "int" (.non) B=.ok (.bl Y,B):=(hU (by decide)).trans (congrArg (λz=>R.ok (U.bl z,B)) (by decide))
def inb (s:String){T:String}{u:U}{B:Ev}{b:Bool}(h:Sq u=s)(h1:¬s="script")(h2:kC s T=b):jd T u B=.ok (.bl b,B):=by unfold jd;rw[h,hU h1,h2]
def tX {b:Bool}{B:Ev}:jd "bool" (.bl b) B=.ok (.bl M,B):=inb "bool" rfl (by decide) (by decide)
def wK {b:Bool}{B:Ev}:jd "int" (.bl b) B=.ok (.bl M,B):=inb "bool" rfl (by decide) (by decide)
def qy {i:Int}{B:Ev}:jd "bool" (.int i) B=.ok (.bl Y,B):=inb "int" rfl (by decide) (by decide)
def t7 {i:Int}{B:Ev}:jd "int" (.int i) B=.ok (.bl M,B):=inb "int" rfl (by decide) (by decide)
def qB {x:Str}{B:Ev}:jd "bool" (.str x) B=.ok (.bl Y,B):=inb "str" rfl (by decide) (by decide)
def t_ {x:Str}{B:Ev}:jd "int" (.str x) B=.ok (.bl Y,B):=inb "str" rfl (by decide) (by decide)
def qE {us:List U}{B:Ev}:jd "bool" (.tup us) B=.ok (.bl Y,B):=inb "tuple" rfl (by decide) (by decide)
def ud {us:List U}{B:Ev}:jd "int" (.tup us) B=.ok (.bl Y,B):=inb "tuple" rfl (by decide) (by decide)
def oy {us:List U}{B:Ev}:jd "tuple" (.tup us) B=.ok (.bl M,B):=inb "tuple" rfl (by decide) (by decide)
def qH {us:List U}{B:Ev}:jd "bool" (.lst us) B=.ok (.bl Y,B):=inb "list" rfl (by decide) (by decide)
def uf {us:List U}{B:Ev}:jd "int" (.lst us) B=.ok (.bl Y,B):=inb "list" rfl (by decide) (by decide)
def T8 (u:U):Prop:=match u with
 | .scr _=>False
 | .obj _ _=>False
 |_=>True
noncomputable def zJ (u:U):Bool:=match u with
 | .int _=>M
 |_=>Y
noncomputable def BX (lo hi:Int)(u:U):Bool:=match u with
 | .int i=>decide (lo<=i)&&decide (i<=hi)
 |_=>Y
theorem fJ (h:Gj u):T8 u:=by
 obtain⟨d,e,_⟩:=h;cases u<;>first|trivial|(unfold iN at e;cases e)
theorem oB (i:Str):Gj (.str i):=⟨.str i,by rfl,by unfold du;lia⟩
theorem xM:∀{us:List U},us.all zJ=M->∃ns:List Int,us=ns.map .int
 | [],_=>⟨[],rfl⟩
 |u::us,h=>by
  rw[Œ,é] at h;obtain⟨ns,e⟩:=xM h.2;cases u<;>first|(cases h.1;done)|skip
  rename_i i;exact⟨i::ns,by rw[e];rfl⟩
theorem L7 {hi:Int}(h:BX lo hi u=M):zJ u=M:=by cases u<;>first|rfl|cases h
def ar:=zyy @NA<|zyy @HW<|zyy @X_<|zyy @Ft<|zyy @HX<|zyy @TJ<|zyy @Ya<|zyy @NC<|zyy @HY<|zyy @ND<|zyy @HZ<|zyy @NF<|zyy @NG<|zyy @TM<|zyy @Dr<|zyy @H0<|zyy @Dt<|zyy @H9<|zyy @H_<|zyy @TQ<|zyy @TR<|zyy @NJ<|zyy @Dv<|zyy @TU<|zyy @NK<|zyy @NL<|zyy @Ye<|zyy @Ia<|zyy @Dx<|zyy @NM<|zyy @Dy<|zyy @TV<|zyy @Ib<|zyy @Ic<|zyy @NN<|zyy @Ig<|zyy @Ih<|zyy @Ik<|zyy @NO<|zyy @NP<|zyy @NR<|zyy @Il<|zyy @NT<|zyy @Io<|zyy @NV<|zyy @Iq<|zyy @NW<|zyy @Iu<|zyy @Iv<|zyy @Iw<|zyy @Iz<|zyy @IC<|zyy @ID<|zyy @NZ<|zyy @N0<|zyy @N1<|zyy @IF<|zyy @N2<|zyy @IG<|zyy @DP<|zyy @IH<|zyy @DQ<|zyy @N3<|zyy @zI<|zyy @wI<|zyy @wJ<|zyy @II<|zyy @IJ<|zyy @IK<|zyy @N4<|zyy @N5<|zyy @IL<|zyy @N6<|zyy @N7<|zyy @T3<|zyy @T4<|zyy @pQ<|zyy @T5<|zyy @N9<|zyy @N_<|zyy @Oa<|zyy @Ob<|zyy @Od<|zyy @IM<|zyy @IP<|zyy @IQ<|zyy @IS<|zyy @IW<|zyy @IX<|zyy @T6<|zyy @Oh<|zyy @Oi<|zyy @Oj<|zyy @NH<|zyy @qu<|zyy @tV<|zyy @tX<|zyy @wK<|zyy @qy<|zyy @t7<|zyy @qB<|zyy @t_<|zyy @qE<|zyy @ud<|zyy @oy<|zyy @qH<|zyy @uf @DR
end L2
namespace L2
def kj (P:ø)(w:ß)(base:Í)(k:Nat)(G:Gm)(m:Md)(s:Ev->SR)(d:Df K mg x st)(S:az N ps (ag st))(hb:∀(kV ku pm:F) (an:Option Õ) (bT ct:F) (us:List F),us.length=ps.length->bindArgs (Ĉ x x (di st) (aU st) (ag st) .none kV ku pm an bT ct) ⟨us,[]⟩=pure (ps.zip us))(dZ:∀{f:Õ} {bT:F} {A:Ñ} {outer:List Env} {s0:Ã} {H:Hp} {E:XK} (hr:cI k (A.deeper (Ć x (ag st) s0.heap.objs.size f bT))),(A.deeper (Ć x (ag st) s0.heap.objs.size f bT)).units+64<î->BJ (eZ kg P w K mg base N x (ag st) f bT A outer s0 H E).nox G m (aU st) s)(ED:G.io=Y:=by rfl)(ma:∀i,i<ps.length->G.is i=Y:=by decide):Fn P w K mg base x (k+1) ps (ji K ps.length (cR m N.length s) m):=Df.fnD G m s d S hb ED ma λ_ _ _ _ _ _ _ hr=>dZ hr hr.units
def Fv (P:ø)(w:ß)(base:Í)(k:Nat)(G:Gm)(s:Ev->SR)(d:Df K mg x st)(S:az N ps (ag st))(hb:∀(kV ku pm:F) (an:Option Õ) (bT ct:F) (us:List F),us.length=ps.length->bindArgs (Ĉ x x (di st) (aU st) (ag st) .none kV ku pm an bT ct) ⟨us,[]⟩=pure (ps.zip us))(dZ:∀{f:Õ} {bT:F} {A:Ñ} {outer:List Env} {s0:Ã} {H:Hp} {E:XK} (hr:cI k (A.deeper (Ć x (ag st) s0.heap.objs.size f bT))),(A.deeper (Ć x (ag st) s0.heap.objs.size f bT)).units+64<î->BJ (eZ kg P w K mg base N x (ag st) f bT A outer s0 H E).nox G .S (aU st) s)(ED:G.io=M:=by rfl)(h0:G.is 0=M:=by rfl)(ma:∀i,i<ps.length->i≠0->G.is i=Y:=by decide):Fn P w K mg base x (k+1) ps (Hq K ps.length (kH N.length s)):=Df.fnI G s d S hb ED h0 ma λ_ _ _ _ _ _ _ hr=>dZ hr hr.units
end L2
namespace Hc.Ts
noncomputable def iU:Bool->Á->Array Á->Nat->Nat->Nat->StateT È Sem (Option Nat):=sortPriv% PySem.Builtin.gallop
noncomputable def jM (left:Bool)(key:Á)(vo:Array Á)(base i:Nat):StateT È Sem (Option Bool):=do
 let x ←elem' vo (base+i)
 if left then lt' x key else return (←lt' key x).map (!·)
section
variable {A:Ñ}
def Qn (left:Bool)(key:Á)(vo:Array Á)(base n ZJ XJ:Nat):StateT È Sem (Option Nat):=do
 let mut lo:=ZJ
 let mut hi:=XJ
 for _ in [0:n] do
  if lo≥hi then break
  let m:=lo+(hi-lo) / 2
  let J more ←jM left key vo base m|return Z
  if more then lo:=m+1 else hi:=m
 return J hi
theorem DV {left:Bool}{key:Á}{base n lo hi:Nat}{st:È}{Q:Option Nat->È->Prop}(b:Nat->Bool)(hb:∀i,i<n->∀Q:Option Bool->È->Prop,Q (J (b i)) st->wpS Mq A E s (jM left key vo base i) Q st)(mono:∀i j,i<=j->j<n->b j=M->b i=M)(h1:lo<=hi)(h2:hi<=n)(hl:∀i,i<lo->b i=M)(hr:∀i,hi<=i->i<n->b i=Y)(h:∀k,k<=n->(∀i,i<k->b i=M)->(∀i,k<=i->i<n->b i=Y)->Q (J k) st):wpS Mq A E s (Qn left key vo base n lo hi) Q st:=by
 refine Î (Ď (ĕ (I:=λx c aV=>aV=st/\∃l r,c=(Z,l,r)/\l<=r/\r<=n/\r-l<=n-x/\(∀i,i<l->b i=M)/\∀i,r<=i->i<n->b i=Y)
  (Q:=λc aV=>aV=st/\∃k,c=(Z,k,k)/\k<=n/\(∀i,i<k->b i=M)/\∀i,k<=i->i<n->b i=Y) ?step ?fin ⟨rfl,lo,hi,rfl,h1,h2,by (simp;lia),hl,hr⟩) ?post)
 case fin=>
  rintro c aV ⟨rfl,l,r,rfl,a1,a2,a3,a4,a5⟩;have:l=r:=by (simp at *;lia)
  subst this;exact⟨rfl,l,rfl,a2,a4,a5⟩
 case step=>
  rintro x c aV _ hx ⟨rfl,l,r,rfl,a1,a2,a3,a4,a5⟩;dsimp only;by_cases c:l≥r
  ·rw[hV c];have:l=r:=by lia
   subst this;exact Ó ⟨rfl,l,rfl,a2,a4,a5⟩
  ·rw[hU c];refine Î (hb _ (by grind) _ ?_);cases e:b _ with
   |true=>
    exact Ó ⟨rfl,_,r,rfl,by grind,a2,by (simp at *;lia),λi hi=>mono i _ (by lia) (by grind) e,a5⟩
   |false=>
    refine Ó ⟨rfl,l,_,rfl,by lia,by grind,by (simp at *;lia),a4,λi h1 h2=>?_⟩;cases e2:b i with
    |false=>rfl
    |true=>rw[mono _ i h1 h2 e2] at e;cases e
 case post=>
  rintro c aV ⟨rfl,k,rfl,a1,a2,a3⟩;exact Ó (h k a1 a2 a3)
theorem wM {left:Bool}{key:Á}{base n hint:Nat}{st:È}{Q:Option Nat->È->Prop}(b:Nat->Bool)(hb:∀i,i<n->∀Q:Option Bool->È->Prop,Q (J (b i)) st->wpS Mq A E s (jM left key vo base i) Q st)(mono:∀i j,i<=j->j<n->b j=M->b i=M)(hh:hint<n)(h:∀k,k<=n->(∀i,i<k->b i=M)->(∀i,k<=i->i<n->b i=Y)->Q (J k) st):wpS Mq A E s (iU left key vo base n hint) Q st:=by
 have YN:∀i j,i<=j->j<n->b i=Y->b j=Y:=λi j h1 h2 e=>by
  cases e2:b j with
  |false=>rfl
  |true=>rw[mono i j h1 h2 e2] at e;cases e
 refine Î (hb hint hh _ ?_);cases e0:b hint with
 |true=>
  refine Î (Ď (ĕ (I:=λx c aV=>aV=st/\∃l o,c=(Z,l,o)/\l<o/\x+1<=o/\hint+l<n/\b (hint+l)=M)
   (Q:=λc aV=>aV=st/\∃l o,c=(Z,l,o)/\l<o/\hint+l<n/\b (hint+l)=M/\(o≥n-hint\/b (hint+o)=Y)) ?step ?fin ⟨rfl,0,1,rfl,by lia,by lia,hh,e0⟩) ?post)
  case fin=>
   rintro c aV ⟨rfl,l,o,rfl,a1,a2,a3,a4⟩;exact⟨rfl,l,o,rfl,a1,a3,a4,.inl (by (simp;lia))⟩
  case step=>
   rintro x c aV _ hx ⟨rfl,l,o,rfl,a1,a2,a3,a4⟩;dsimp only;by_cases c:o≥n-hint
   ·rw[hV c];exact Ó ⟨rfl,l,o,rfl,a1,a3,a4,.inl c⟩
   ·rw[hU c];refine Î (hb _ (by (simp at *;lia)) _ ?_);cases e:b _ with
    |true=>
     exact Ó ⟨rfl,o,_,rfl,by lia,by lia,by (simp at *;lia),e⟩
    |false=>
     exact Ó ⟨rfl,l,o,rfl,a1,a3,a4,.inr e⟩
  case post=>
   rintro c aV ⟨rfl,l,o,rfl,a1,a3,a4,a5⟩;show wpS _ _ _ _ (Qn left key vo base n (hint+l+1) (hint+min o _)) _ _;refine DV b hb mono (by lia) (by lia) (λi hi=>mono i _ (by lia) a3 a4) (λi h1 h2=>?_) h;grind
 |false=>
  refine Î (Ď (ĕ (I:=λx c aV=>aV=st/\∃l o,c=(Z,l,o)/\l<o/\x+1<=o/\l<=hint/\b (hint-l)=Y)
   (Q:=λc aV=>aV=st/\∃l o,c=(Z,l,o)/\l<o/\l<=hint/\b (hint-l)=Y/\(o≥hint+1\/b (hint-o)=M)) ?step ?fin ⟨rfl,0,1,rfl,by lia,by lia,by lia,e0⟩) ?post)
  case fin=>
   rintro c aV ⟨rfl,l,o,rfl,a1,a2,a3,a4⟩;exact⟨rfl,l,o,rfl,a1,a3,a4,.inl (by (simp at *;lia))⟩
  case step=>
   rintro x c aV _ hx ⟨rfl,l,o,rfl,a1,a2,a3,a4⟩;dsimp only;by_cases c:o≥hint+1
   ·rw[hV c];exact Ó ⟨rfl,l,o,rfl,a1,a3,a4,.inl c⟩
   ·rw[hU c];refine Î (hb _ (by grind) _ ?_);cases e:b _ with
    |true=>
     exact Ó ⟨rfl,l,o,rfl,a1,a3,a4,.inr e⟩
    |false=>
     exact Ó ⟨rfl,o,_,rfl,by lia,by lia,by lia,e⟩
  case post=>
   rintro c aV ⟨rfl,l,o,rfl,a1,a3,a4,a5⟩;show wpS _ _ _ _ (Qn left key vo base n (hint+1-min o _) (hint-l)) _ _;refine DV b hb mono (by (simp;omega)) (by (simp;lia)) (λi hi=>?_) (λi h1 h2=>YN _ i h1 h2 a4) h;grind
end
end Hc.Ts
namespace Hc.Ts
section
variable {O:ľ}(key:Á->O.α)
def iO (l:List Á):Prop:=l.Pairwise λx y=>O.kle (key x) (key y)
structure MI (T o ra rb:List Á):Prop where
 perm:(o++(ra++rb)).Perm T
 so:iO key o
 sa:iO key ra
 sb:iO key rb
 oa:∀x∈o,∀y∈ra,O.kle (key x) (key y)
 ob:∀x∈o,∀y∈rb,O.kle (key x) (key y)
structure MH (T ra rb o:List Á):Prop where
 perm:((ra++rb)++o).Perm T
 so:iO key o
 sa:iO key ra
 sb:iO key rb
 oa:∀x∈ra,∀y∈o,O.kle (key x) (key y)
 ob:∀x∈rb,∀y∈o,O.kle (key x) (key y)
variable {key}
def bQ {l r:List Á}:iO key (l++r)↔iO key l/\iO key r/\∀x∈l,∀y∈r,O.kle (key x) (key y):=List.pairwise_append
theorem MI.stepA {x:List Á}(h:MI key T o (x++ra) rb)(hx:∀a∈x,∀b∈rb,O.kle (key a) (key b)):MI key T (o++x) ra rb:=by
 obtain⟨s1,s2,s3⟩:=bQ.mp h.sa;refine⟨?_,bQ.mpr ⟨h.so,s1,λa ha b hb=>h.oa a ha b (ŷ _ hb)⟩,s2,h.sb,λa ha b hb=>?_,λa ha b hb=>?_⟩
 ·have e:o++x++(ra++rb)=o++(x++ra++rb):=by simp[õ]
  rw[e];exact h.perm
 ·rcases ñ.mp ha with ha|ha
  ·exact h.oa a ha b (Ē _ hb)
  ·exact s3 a ha b hb
 ·rcases ñ.mp ha with ha|ha
  ·exact h.ob a ha b hb
  ·exact hx a ha b hb
theorem MI.stepB {y:List Á}(h:MI key T o ra (y++rb))(hy:∀b∈y,∀a∈ra,O.kle (key b) (key a)):MI key T (o++y) ra rb:=by
 obtain⟨s1,s2,s3⟩:=bQ.mp h.sb;refine⟨?_,bQ.mpr ⟨h.so,s1,λa ha b hb=>h.ob a ha b (ŷ _ hb)⟩,h.sa,s2,λa ha b hb=>?_,λa ha b hb=>?_⟩
 ·refine List.Perm.trans ?_ h.perm;have e:o++y++(ra++rb)=o++((y++ra)++rb):=by simp[õ]
  have e2:o++(ra++(y++rb))=o++((ra++y)++rb):=by simp[õ]
  rw[e,e2];exact Ŗ o (ŭ rb Ŏ)
 ·rcases ñ.mp ha with ha|ha
  ·exact h.oa a ha b hb
  ·exact hy a ha b hb
 ·rcases ñ.mp ha with ha|ha
  ·exact h.ob a ha b (Ē _ hb)
  ·exact s3 a ha b hb
def MI.endA (h:MI key T o ra []):(o++ra).Perm T/\iO key (o++ra):=by
 refine⟨?_,bQ.mpr ⟨h.so,h.sa,h.oa⟩⟩;have:=h.perm;rw[ā] at this;exact this
def MI.endB (h:MI key T o [] rb):(o++rb).Perm T/\iO key (o++rb):=⟨h.perm,bQ.mpr ⟨h.so,h.sb,h.ob⟩⟩
theorem MI.last (h:MI key T o ra rb)(hl:∀b∈rb,∀a∈ra,O.kle (key b) (key a)):(o++(rb++ra)).Perm T/\iO key (o++(rb++ra)):=
 ⟨(Ŗ o Ŏ).trans h.perm,bQ.mpr ⟨h.so,bQ.mpr ⟨h.sb,h.sa,hl⟩,λa ha b hb=>by
  rcases ñ.mp hb with hb|hb
  ·exact h.ob a ha b hb
  ·exact h.oa a ha b hb⟩⟩
theorem MH.stepA {x:List Á}(h:MH key T (ra++x) rb o)(hx:∀b∈rb,∀a∈x,O.kle (key b) (key a)):MH key T ra rb (x++o):=by
 obtain⟨s1,s2,s3⟩:=bQ.mp h.sa;refine⟨?_,bQ.mpr ⟨s2,h.so,λa ha b hb=>h.oa a (Ē _ ha) b hb⟩,s1,h.sb,λa ha b hb=>?_,λa ha b hb=>?_⟩
 ·refine List.Perm.trans ?_ h.perm;have e:ra++rb++(x++o)=(ra++(rb++x))++o:=by simp[õ]
  have e2:ra++x++rb++o=(ra++(x++rb))++o:=by simp[õ]
  rw[e,e2];exact ŭ o (Ŗ ra Ŏ)
 ·rcases ñ.mp hb with hb|hb
  ·exact s3 a ha b hb
  ·exact h.oa a (ŷ _ ha) b hb
 ·rcases ñ.mp hb with hb|hb
  ·exact hx a ha b hb
  ·exact h.ob a ha b hb
theorem MH.stepB {y:List Á}(h:MH key T ra (rb++y) o)(hy:∀a∈ra,∀b∈y,O.kle (key a) (key b)):MH key T ra rb (y++o):=by
 obtain⟨s1,s2,s3⟩:=bQ.mp h.sb;refine⟨?_,bQ.mpr ⟨s2,h.so,λa ha b hb=>h.ob a (Ē _ ha) b hb⟩,h.sa,s1,λa ha b hb=>?_,λa ha b hb=>?_⟩
 ·have e:ra++rb++(y++o)=ra++(rb++y)++o:=by simp[õ]
  rw[e];exact h.perm
 ·rcases ñ.mp hb with hb|hb
  ·exact hy a ha b hb
  ·exact h.oa a ha b hb
 ·rcases ñ.mp hb with hb|hb
  ·exact s3 a ha b hb
  ·exact h.ob a (ŷ _ ha) b hb
def MH.endB (h:MH key T [] rb o):(rb++o).Perm T/\iO key (rb++o):=⟨h.perm,bQ.mpr ⟨h.sb,h.so,h.ob⟩⟩
def MH.endA (h:MH key T ra [] o):(ra++o).Perm T/\iO key (ra++o):=by
 refine⟨?_,bQ.mpr ⟨h.sa,h.so,h.oa⟩⟩;have:=h.perm;rw[ā] at this;exact this
theorem MH.first (h:MH key T ra rb o)(hl:∀b∈rb,∀a∈ra,O.kle (key b) (key a)):((rb++ra)++o).Perm T/\iO key ((rb++ra)++o):=
 ⟨(ŭ o Ŏ).trans h.perm,bQ.mpr ⟨bQ.mpr ⟨h.sb,h.sa,hl⟩,h.so,λa ha b hb=>by
  rcases ñ.mp ha with ha|ha
  ·exact h.ob a ha b hb
  ·exact h.oa a ha b hb⟩⟩
end
structure mw (Mq:Model)(A:Ñ)(E:F->Ã->Prop)(s:Ã)(O:ľ)(key:Á->O.α)(knd:ĩ)(D:Á->Prop):Prop where
 lt:∀(x y:Á) (st:È) (Q:Option Bool->È->Prop),D x->D y->â st=knd->Q (J (O.blt (key x) (key y))) st->wpS Mq A E s (lt' x y) Q st
section
variable {A:Ñ}{O:ľ}{key:Á->O.α}{knd:ĩ}{D:Á->Prop}
def bW {x:Á}{st:È}{Q:Á->È->Prop}(h:vo.toList[i]? = J x)(q:Q x st):wpS Mq A E s (elem' vo i) Q st:=by
 have h:vo[i]? = J x:=by rw[<-Ĕ];exact h
 rw[elem'_eq,h];exact Ó q
theorem mY (C:mw Mq A E s O key knd D){kx:Á}{base hint:Nat}{qd:List Á}{st:È}{Q:Option Nat->È->Prop}(R8:∀i x,qd[i]? = J x->vo.toList[base+i]? = J x)(hs:iO key qd)(hD:∀x∈qd,D x)(hk:D kx)(kd:â st=knd)(hh:hint<qd.length)(h:∀k,k<=qd.length->(∀x∈qd.take k,O.kle (key x) (key kx))->(∀x∈qd.drop k,O.klt (key kx) (key x))->Q (J k) st):wpS Mq A E s (iU Y kx vo base qd.length hint) Q st:=by
 have at_:∀i,(hi:i<qd.length)->qd[i]? = J qd[i]:=λi hi=>Ø hi;refine wM (λi=> !(match qd[i]? with|some x=>O.blt (key kx) (key x)|none=>Y)) (λi hi Q q=>?_) (λi j Bg hj e=>?_) hh λk KI h1 h2=>h k KI (λx hx=>?_) λx hx=>?_
 ·rw[at_ i hi] at q;refine Î (bW (R8 i _ (at_ i hi)) ?_);exact Î (C.lt _ _ st _ hk (hD _ (ą hi)) kd (Ó q))
 ·have hi:i<qd.length:=by lia
  simp only[at_ i hi,at_ j hj,Bool.not_eq_true'] at e |-;by_cases c:i=j
  ·subst c;exact e
  ·have:=ϝ.mp hs i j hi hj (by lia);exact ĉ this e
 ·obtain⟨i,hi,rfl⟩:=Ρ.mp hx;rw[ÿ] at hi;have:=h1 i (by simp_all);simp only[at_ i (by lia),Bool.not_eq_true'] at this;rw[aeD];exact this
 ·obtain⟨i,hi,rfl⟩:=Ρ.mp hx;rw[ē] at hi;have:=h2 (k+i) (by lia) (by grind);simp only[at_ (k+i) (by grind),Bool.not_eq_false'] at this;rw[List.getElem_drop];exact this
theorem mZ (C:mw Mq A E s O key knd D){kx:Á}{base hint:Nat}{qd:List Á}{st:È}{Q:Option Nat->È->Prop}(R8:∀i x,qd[i]? = J x->vo.toList[base+i]? = J x)(hs:iO key qd)(hD:∀x∈qd,D x)(hk:D kx)(kd:â st=knd)(hh:hint<qd.length)(h:∀k,k<=qd.length->(∀x∈qd.take k,O.klt (key x) (key kx))->(∀x∈qd.drop k,O.kle (key kx) (key x))->Q (J k) st):wpS Mq A E s (iU M kx vo base qd.length hint) Q st:=by
 have at_:∀i,(hi:i<qd.length)->qd[i]? = J qd[i]:=λi hi=>Ø hi;refine wM (λi=>match qd[i]? with|some x=>O.blt (key x) (key kx)|none=>Y) (λi hi Q q=>?_) (λi j Bg hj e=>?_) hh λk KI h1 h2=>h k KI (λx hx=>?_) λx hx=>?_
 ·rw[at_ i hi] at q;refine Î (bW (R8 i _ (at_ i hi)) ?_);exact C.lt _ _ st _ (hD _ (ą hi)) hk kd q
 ·have hi:i<qd.length:=by lia
  simp only[at_ i hi,at_ j hj] at e |-;by_cases c:i=j
  ·subst c;exact e
  ·have:=ϝ.mp hs i j hi hj (by lia);exact KeyOrd.klt_of_kle_of_klt this e
 ·obtain⟨i,hi,rfl⟩:=Ρ.mp hx;rw[ÿ] at hi;have:=h1 i (by lia);simp only[at_ i (by lia)] at this;rw[aeD];exact this
 ·obtain⟨i,hi,rfl⟩:=Ρ.mp hx;rw[ē] at hi;have:=h2 (k+i) (by lia) (by lia);simp only[at_ (k+i) (by lia)] at this;rw[List.getElem_drop];exact this
end
end Hc.Ts
namespace Hc.Ts
noncomputable abbrev eB (st:È)(g:Nat):È:=SortSt.mk' (â st) (Ï st) (ï st) g (Ĵ st)
def fW (g:Nat):StateT È Sem Unit:=modify λs=>eB s g
noncomputable def uj:Array Á->Array Á->StateT È Sem (Array Á):=sortPriv% PySem.Builtin.mergeLo
noncomputable abbrev Ol:=Option (Array Á)×Array Á×Nat×Nat×Nat×Nat×Nat
noncomputable abbrev Su:=Option (Array Á)×Array Á×Nat×Nat×Nat×Nat
noncomputable abbrev VB:=Option (Array Á)×Array Á×Nat×Nat×Nat
noncomputable def gw (a b out:Array Á)(ia ib:Nat):Array Á:=out++a.extract ia a.size++b.extract ib b.size
noncomputable def m_ (a b out:Array Á)(ia ib:Nat):Array Á:=out++b.extract ib b.size++a.extract ia a.size
def Qo (a b out:Array Á)(ia ib g k k1:Nat):StateT È Sem (ForInStep Ol):=do
 let x ←elem' a ia
 if (ia+1+1==a.size)=M then pure (.done (J (m_ a b (out.push x) (ia+1) ib),out.push x,ia+1,ib,g,k,k1))
 else if (decide (k<7)&&decide (k1<7))=M then pure (.done (Z,out.push x,ia+1,ib,g,k,k1))
 else pure (.yield (Z,out.push x,ia+1,ib,g,k,k1))
def Qp (a b out:Array Á)(ia ib g k bc:Nat):StateT È Sem (ForInStep Ol):=do
 let y ←elem' b ib
 if (ib+1==b.size)=M then pure (.done (J (gw a b (out.push y) ia (ib+1)),out.push y,ia,ib+1,g,k,bc))
 else do
  let x ←elem' a ia
  let J k1 ←iU M x b (ib+1) (b.size-(ib+1)) 0|pure (.done (J (gw a b (out.push y) ia (ib+1)),out.push y,ia,ib+1,g,k,bc))
  if k1>0 then
   if (ib+1+k1==b.size)=M then pure (.done (J (gw a b (out.push y++b.extract (ib+1) (ib+1+k1)) ia (ib+1+k1)),out.push y++b.extract (ib+1) (ib+1+k1),ia,ib+1+k1,g,k,k1))
   else Qo a b (out.push y++b.extract (ib+1) (ib+1+k1)) ia (ib+1+k1) g k k1
  else Qo a b (out.push y) ia (ib+1) g k k1
def Qq (a b out:Array Á)(ia ib g ac bc:Nat):StateT È Sem (ForInStep Ol):=do
 fW g
 let y ←elem' b ib
 let J k ←iU Y y a ia (a.size-ia) 0|pure (.done (J (gw a b out ia ib),out,ia,ib,g,ac,bc))
 if k>0 then
  if (ia+k+1==a.size)=M then pure (.done (J (m_ a b (out++a.extract ia (ia+k)) (ia+k) ib),out++a.extract ia (ia+k),ia+k,ib,g,k,bc))
  else if (ia+k==a.size)=M then pure (.done (J (gw a b (out++a.extract ia (ia+k)) (ia+k) ib),out++a.extract ia (ia+k),ia+k,ib,g,k,bc))
  else Qp a b (out++a.extract ia (ia+k)) (ia+k) ib g k bc
 else Qp a b out ia ib g k bc
def WL (a b:Array Á)(_:Nat)(c:Ol):StateT È Sem (ForInStep Ol):=
 if c.2.2.2.2.1>1 then Qq a b c.2.1 c.2.2.1 c.2.2.2.1 (c.2.2.2.2.1-1) c.2.2.2.2.2.1 c.2.2.2.2.2.2
 else Qq a b c.2.1 c.2.2.1 c.2.2.2.1 c.2.2.2.2.1 c.2.2.2.2.2.1 c.2.2.2.2.2.2
def Yh (a b:Array Á)(g:Nat)(_:Nat)(c:Su):StateT È Sem (ForInStep Su):=do
 let y ←elem' b c.2.2.2.1
 let x ←elem' a c.2.2.1
 let J bWins ←lt' y x|pure (.done (J (gw a b c.2.1 c.2.2.1 c.2.2.2.1),c.2.1,c.2.2.1,c.2.2.2.1,c.2.2.2.2.1,c.2.2.2.2.2))
 if bWins=M then do
   let y ←elem' b c.2.2.2.1
   if (c.2.2.2.1+1==b.size)=M then pure (.done (J (gw a b (c.2.1.push y) c.2.2.1 (c.2.2.2.1+1)),c.2.1.push y,c.2.2.1,c.2.2.2.1+1,0,c.2.2.2.2.2+1))
   else if c.2.2.2.2.2+1≥g then pure (.done (Z,c.2.1.push y,c.2.2.1,c.2.2.2.1+1,0,c.2.2.2.2.2+1))
   else pure (.yield (Z,c.2.1.push y,c.2.2.1,c.2.2.2.1+1,0,c.2.2.2.2.2+1))
 else do
   let x ←elem' a c.2.2.1
   if (c.2.2.1+1+1==a.size)=M then pure (.done (J (m_ a b (c.2.1.push x) (c.2.2.1+1) c.2.2.2.1),c.2.1.push x,c.2.2.1+1,c.2.2.2.1,c.2.2.2.2.1+1,0))
   else if c.2.2.2.2.1+1≥g then pure (.done (Z,c.2.1.push x,c.2.2.1+1,c.2.2.2.1,c.2.2.2.2.1+1,0))
   else pure (.yield (Z,c.2.1.push x,c.2.2.1+1,c.2.2.2.1,c.2.2.2.2.1+1,0))
def Yi (a b:Array Á)(_:Nat)(c:VB):StateT È Sem (ForInStep VB):=do
 let d ←forIn [0:a.size+b.size] (Z,c.2.1,c.2.2.1,c.2.2.2.1,0,0) (Yh a b c.2.2.2.2)
 match d.1 with
 |some r=>pure (.done (J r,d.2.1,d.2.2.1,d.2.2.2.1,c.2.2.2.2))
 |none=>do
  liftM (rule "list.sort.gallop")
  let e ←forIn [0:a.size+b.size] (Z,d.2.1,d.2.2.1,d.2.2.2.1,c.2.2.2.2+1,d.2.2.2.2.1,d.2.2.2.2.2) (WL a b)
  match e.1 with
  |some r=>pure (.done (J r,e.2.1,e.2.2.1,e.2.2.2.1,e.2.2.2.2.1))
  |none=>do
   fW (e.2.2.2.2.1+1)
   pure (.yield (Z,e.2.1,e.2.2.1,e.2.2.2.1,e.2.2.2.2.1+1))
theorem xN (a b:Array Á):uj a b=(do
  liftM (rule "list.sort.merge-lo")
  let y ←elem' b 0
  if (1==b.size)=M then pure (gw a b #[y] 0 1)
  else if (0+1==a.size)=M then pure (m_ a b #[y] 0 1)
  else do
   let st ←get
   let c ←forIn [0:a.size+b.size] ((Z,#[y],0,1,gallopOf st):VB) (Yi a b)
   match c.1 with
   |some r=>pure r
   |none=>liftM (Ų "internal:list.sort.merge-bound")):=by kernel_rfl
section
variable {A:Ñ}{O:ľ}{key:Á->O.α}{knd:ĩ}{D:Á->Prop}
def rZ (a:Array Á)(i:Nat):(a.extract i a.size).toList=a.toList.drop i:=by
 rw[Ϯ];exact Ξ (by simp)
def xO (a:Array Á)(i k:Nat):(a.extract i (i+k)).toList=(a.toList.drop i).take k:=by
 simp
def zK (a b out:Array Á)(ia ib:Nat):(gw a b out ia ib).toList=out.toList++(a.toList.drop ia++b.toList.drop ib):=by
 unfold gw;rw[Ĳ,Ĳ,rZ,rZ,õ]
def IZ (a b out:Array Á)(ia ib:Nat):(m_ a b out ia ib).toList=out.toList++(b.toList.drop ib++a.toList.drop ia):=by
 unfold m_;rw[Ĳ,Ĳ,rZ,rZ,õ]
def lU {l:List Á}(h:i<l.length):l.drop i=[l[i]]++l.drop (i+1):=ξ h
def uk {l:List Á}(i k:Nat):l.drop i=(l.drop i).take k++l.drop (i+k):=by rw[<-ϩ,Ł]
def r6 (key:Á->O.α)(T:List Á)(r:Array Á):Prop:=r.toList.Perm T/\iO key r.toList
structure LI (key:Á->O.α)(T:List Á)(a b out:Array Á)(ia ib:Nat):Prop where
 ha:ia+1<a.size
 hb:ib<b.size
 mi:MI key T out.toList (a.toList.drop ia) (b.toList.drop ib)
structure LR (key:Á->O.α)(D:Á->Prop)(a b:Array Á):Prop where
 da:∀x∈a.toList,D x
 db:∀x∈b.toList,D x
 last:∀i,i+1=a.size->∀y∈b.toList,∀x,a.toList[i]? = J x->O.kle (key y) (key x)
variable {a b out:Array Á}{ia ib:Nat}
theorem LR.fin (R:LR key D a b)(h:MI key T out.toList (a.toList.drop ia) (b.toList.drop ib))(e:ia+1=a.size):r6 key T (m_ a b out ia ib):=by
 unfold r6;rw[IZ];refine h.last λy hy x hx=>?_;have hl:ia<a.toList.length:=by rw[í];lia
 have hn:a.toList.drop (ia+1)=[]:=ϟ (by rw[í];simp[*]);rw[lU hl,hn,ā,ð] at hx;subst hx;exact R.last ia e y (Ź hy) _ (Ø hl)
theorem DX (h:MI key T out.toList (a.toList.drop ia) (b.toList.drop ib))(e:ib=b.size):r6 key T (gw a b out ia ib):=by
 have hn:b.toList.drop ib=[]:=ϟ (by rw[í];lia);unfold r6;rw[zK];rw[hn] at h |-;rw[ā];exact h.endA
theorem T9 (h:MI key T out.toList (a.toList.drop ia) (b.toList.drop ib))(e:ia=a.size):r6 key T (gw a b out ia ib):=by
 have hn:a.toList.drop ia=[]:=ϟ (by rw[í];lia);unfold r6;rw[zK];rw[hn] at h |-;exact h.endB
theorem kO {l:List Á}(h:iO key (l.drop i))(hl:i<l.length):∀x∈l.drop i,O.kle (key l[i]) (key x):=by
 intro x hx;rw[lU hl] at h hx;rcases ñ.mp hx with hx|hx
 ·rw[ð] at hx;subst hx;exact ň _
 ·exact (bQ.mp h).2.2 _ (by simp) x hx
theorem Om (h:MI key T out.toList (a.toList.drop ia) (b.toList.drop ib))(hl:ia<a.toList.length)(hx:∀y∈b.toList.drop ib,O.kle (key a.toList[ia]) (key y)):MI key T (out.push a.toList[ia]).toList (a.toList.drop (ia+1)) (b.toList.drop ib):=by
 rw[ε];rw[lU hl] at h;exact h.stepA λx vt y hy=>by rw[ð] at vt;subst vt;exact hx y hy
theorem I0 (h:MI key T out.toList (a.toList.drop ia) (b.toList.drop ib))(hl:ib<b.toList.length)(hx:∀x∈a.toList.drop ia,O.kle (key b.toList[ib]) (key x)):MI key T (out.push b.toList[ib]).toList (a.toList.drop ia) (b.toList.drop (ib+1)):=by
 rw[ε];rw[lU hl] at h;exact h.stepB λx vt y hy=>by rw[ð] at vt;subst vt;exact hx y hy
def GE (key:Á->O.α)(T:List Á)(a b:Array Á)(n:Nat)(cP:È)(c:Ol)(st:È):Prop:=
 (∃g,st=eB cP g)/\((∃r,c.1=J r/\r6 key T r)\/(c.1=Z/\LI key T a b c.2.1 c.2.2.1 c.2.2.2.1/\n<=c.2.2.1+c.2.2.2.1))
def GS (key:Á->O.α)(T:List Á)(a b:Array Á)(n:Nat)(cP:È)(r:ForInStep Ol)(st:È):Prop:=
 match r with
 | .done c=>GE key T a b n cP c st
 | .yield c=>GE key T a b n cP c st/\c.1=Z
theorem DY (R:LR key D a b){k1 n:Nat}{st cP:È}(gE:∃g,st=eB cP g)(h:LI key T a b out ia ib)(hn:n<=ia+ib)(hx:∀(hl:ia<a.toList.length),∀y∈b.toList.drop ib,O.kle (key a.toList[ia]) (key y)) :
  wpS Mq A E s (Qo a b out ia ib g k k1) (GS key T a b n cP) st:=by
 have hl:ia<a.toList.length:=by have:=h.ha;rw[í];exact Nat.le_of_lt ‹_›
 have m:=Om h.mi hl (hx hl);refine Î (bW (Ø hl) ?_);by_cases c:ia+1+1=a.size
 ·rw[hV (by simpa using c)];exact Ó ⟨gE,.inl ⟨_,rfl,R.fin m c⟩⟩
 ·rw[hU (by simpa using c)];have Lq:LI key T a b _ (ia+1) ib:=⟨by have:=h.ha;lia,h.hb,m⟩;by_cases c2:(decide (k<7)&&decide (k1<7))=M
  ·rw[hV c2];exact Ó ⟨gE,.inr ⟨rfl,Lq,by simp only;lia⟩⟩
  ·rw[hU c2];exact Ó ⟨⟨gE,.inr ⟨rfl,Lq,by simp only;lia⟩⟩,rfl⟩
theorem DZ (C:mw Mq A E s O key knd D)(R:LR key D a b){n:Nat}{st cP:È}(gE:∃g,st=eB cP g)(kd:â cP=knd)(h:LI key T a b out ia ib)(hn:n<=ia+ib)(hx:∀(hl:ib<b.toList.length),∀x∈a.toList.drop ia,O.kle (key b.toList[ib]) (key x)) :
  wpS Mq A E s (Qp a b out ia ib g k bc) (GS key T a b n cP) st:=by
 have nC:=by have:=h.hb;omega
 have vp:ia<a.toList.length:=by have:=h.ha;rw[í];lia
 have m:=I0 h.mi nC (hx nC);have KL:â st=knd:=by obtain⟨g,rfl⟩:=gE;exact kd
 refine Î (bW (Ø nC) ?_);by_cases c:ib+1=b.size
 ·rw[hV (by simpa using c)];exact Ó ⟨gE,.inl ⟨_,rfl,DX m c⟩⟩
 ·rw[hU (by simpa using c)];refine Î (bW (Ø vp) ?_);have ef:b.size-(ib+1)=(b.toList.drop (ib+1)).length:=by rw[ē,í]
  rw[ef];refine Î (mZ C (λi x e=>by rw[aei] at e;exact e) m.sb (λx hx=>R.db x (Ź hx)) (R.da _ (ą vp)) KL (by grind) λk1 KI p1 p2=>?_);dsimp only;by_cases c1:k1>0
  ·rw[hV c1];have m2:MI key T (out.push b.toList[ib]++b.extract (ib+1) (ib+1+k1)).toList (a.toList.drop ia) (b.toList.drop (ib+1+k1)):=by
    rw[Ĳ,xO];have m':=m;rw[uk (ib+1) k1] at m';exact m'.stepB λy hy x vt=>ĉ (ġ (p1 y hy)) (kO h.mi.sa vp x vt)
   by_cases c2:ib+1+k1=b.size
   ·rw[hV (by simpa using c2)];exact Ó ⟨gE,.inl ⟨_,rfl,DX m2 c2⟩⟩
   ·rw[hU (by simpa using c2)];refine DY R gE ⟨h.ha,by grind,m2⟩ (by lia) λhl y hy=>?_;rw[<-ϩ] at hy;exact p2 y hy
  ·have:k1=0:=by lia
   subst this;refine DY R gE ⟨h.ha,by lia,m⟩ (by lia) λhl y hy=>p2 y hy
theorem D0 (C:mw Mq A E s O key knd D)(R:LR key D a b){ac n:Nat}{st cP:È}(gE:∃g,st=eB cP g)(kd:â cP=knd)(h:LI key T a b out ia ib)(hn:n<=ia+ib) :
  wpS Mq A E s (Qq a b out ia ib g ac bc) (GS key T a b n cP) st:=by
 have nC:=by have:=h.hb;omega
 have Bh:∃g',eB st g=eB cP g':=by obtain⟨g0,rfl⟩:=gE;exact⟨g,rfl⟩
 have KL:â (eB st g)=knd:=by obtain⟨g0,rfl⟩:=gE;exact kd
 refine Î (ŕ ?_);refine Î (bW (Ø nC) ?_);have ef:a.size-ia=(a.toList.drop ia).length:=by rw[ē,í]
 rw[ef];refine Î (mY C (λi x e=>by rw[aei] at e;exact e) h.mi.sa (λx hx=>R.da x (Ź hx)) (R.db _ (ą nC)) KL (by have:=h.ha;grind) λk hk p1 p2=>?_);dsimp only;by_cases c1:k>0
 ·rw[hV c1];have m2:MI key T (out++a.extract ia (ia+k)).toList (a.toList.drop (ia+k)) (b.toList.drop ib):=by
   rw[Ĳ,xO];have m':=h.mi;rw[uk ia k] at m';exact m'.stepA λx hx y hy=>ĉ (p1 x hx) (kO h.mi.sb nC y hy)
  by_cases c2:ia+k+1=a.size
  ·rw[hV (by simpa using c2)];exact Ó ⟨Bh,.inl ⟨_,rfl,R.fin m2 c2⟩⟩
  ·rw[hU (by simpa using c2)];by_cases c3:ia+k=a.size
   ·rw[hV (by simpa using c3)];exact Ó ⟨Bh,.inl ⟨_,rfl,T9 m2 c3⟩⟩
   ·rw[hU (by simpa using c3)];refine DZ C R Bh kd ⟨by (simp at *;lia),h.hb,m2⟩ (by lia) λhl x hx=>?_;rw[<-ϩ] at hx;exact ġ (p2 x hx)
 ·have:k=0:=by lia
  subst this;exact DZ C R Bh kd h hn λhl x hx=>ġ (p2 x hx)
theorem Qr (C:mw Mq A E s O key knd D)(R:LR key D a b){n:Nat}{c:Ol}{st cP:È}(gE:∃g,st=eB cP g)(kd:â cP=knd)(h:LI key T a b c.2.1 c.2.2.1 c.2.2.2.1)(hn:n<=c.2.2.1+c.2.2.2.1) :
  wpS Mq A E s (WL a b i c) (GS key T a b n cP) st:=by
 unfold WL;split
 ·exact D0 C R gE kd h hn
 ·exact D0 C R gE kd h hn
theorem Qs (C:mw Mq A E s O key knd D)(R:LR key D a b){c:Su}{st:È}{Q:ForInStep Su->È->Prop}(kd:â st=knd)(h:LI key T a b c.2.1 c.2.2.1 c.2.2.2.1)(h1:∀d:Su,(∃r,d.1=J r/\r6 key T r)\/(d.1=Z/\LI key T a b d.2.1 d.2.2.1 d.2.2.2.1/\c.2.2.1+c.2.2.2.1+1=d.2.2.1+d.2.2.2.1)->Q (.done d) st)(h2:∀d:Su,d.1=Z->LI key T a b d.2.1 d.2.2.1 d.2.2.2.1->c.2.2.1+c.2.2.2.1+1=d.2.2.1+d.2.2.2.1->Q (.yield d) st) :
  wpS Mq A E s (Yh a b g i c) Q st:=by
 obtain⟨r0,out,ia,ib,ac,bc⟩:=c;dsimp only at h h1 h2 |-;have nC:=by have:=h.hb;omega
 have vp:ia<a.toList.length:=by have:=h.ha;rw[í];lia
 refine Î (bW (Ø nC) ?_);refine Î (bW (Ø vp) ?_);refine Î (C.lt _ _ st _ (R.db _ (ą nC)) (R.da _ (ą vp)) kd ?_);cases e:O.blt _ _ with
 |true=>
  have m:=I0 h.mi nC λx hx=>ĉ (ġ e) (kO h.mi.sa vp x hx);refine Î (bW (Ø nC) ?_);by_cases c:ib+1=b.size
  ·rw[hV (by simpa using c)];exact Ó (h1 _ (.inl ⟨_,rfl,DX m c⟩))
  ·rw[hU (by simpa using c)];have Lq:LI key T a b _ ia (ib+1):=⟨h.ha,by lia,m⟩;split
   ·exact Ó (h1 _ (.inr ⟨rfl,Lq,by rfl⟩))
   ·exact Ó (h2 _ rfl Lq (by rfl))
 |false=>
  have m:=Om h.mi vp λy hy=>ĉ (e) (kO h.mi.sb nC y hy);refine Î (bW (Ø vp) ?_);by_cases c:ia+1+1=a.size
  ·rw[hV (by simpa using c)];exact Ó (h1 _ (.inl ⟨_,rfl,R.fin m c⟩))
  ·rw[hU (by simpa using c)];have Lq:LI key T a b _ (ia+1) ib:=⟨by have:=h.ha;lia,h.hb,m⟩;split
   ·exact Ó (h1 _ (.inr ⟨rfl,Lq,by simp only;lia⟩))
   ·exact Ó (h2 _ rfl Lq (by simp only;lia))
theorem Qt (C:mw Mq A E s O key knd D)(R:LR key D a b){c:VB}{st cP:È}(gE:∃g,st=eB cP g)(kd:â cP=knd)(h:LI key T a b c.2.1 c.2.2.1 c.2.2.2.1) :
  wpS Mq A E s (Yi a b i c) (λr aV=>(∃g,aV=eB cP g)/\match r with
   | .done d=>∃r,d.1=J r/\r6 key T r
   | .yield d=>d.1=Z/\LI key T a b d.2.1 d.2.2.1 d.2.2.2.1/\c.2.2.1+c.2.2.2.1+1<=d.2.2.1+d.2.2.2.1) st:=by
 obtain⟨r0,out,ia,ib,g0⟩:=c;have KL:â st=knd:=by obtain⟨g,rfl⟩:=gE;exact kd
 have hs:=by have:=h.hb;omega
 refine Î (Ď (ĕ (I:=λx d aV=>aV=st/\d.1=Z/\LI key T a b d.2.1 d.2.2.1 d.2.2.2.1/\ia+ib+x=d.2.2.1+d.2.2.2.1)
  (Q:=λd aV=>aV=st/\((∃r,d.1=J r/\r6 key T r)\/(d.1=Z/\LI key T a b d.2.1 d.2.2.1 d.2.2.2.1/\ia+ib+1<=d.2.2.1+d.2.2.2.1))) ?step ?fin ⟨rfl,rfl,h,by rfl⟩) ?post)
 case fin=>
  lia
 case step=>
  rintro x d aV _ hx ⟨rfl,e1,e2,e3⟩;refine Qs C R KL e2 (λd' hd=>?_) λd' p1 p2 p3=>?_
  ·rcases hd with hd|⟨p1,p2,p3⟩
   ·exact⟨rfl,.inl hd⟩
   ·exact⟨rfl,.inr ⟨p1,p2,by lia⟩⟩
  lia
 case post=>
  rintro d aV ⟨rfl,hd⟩;obtain⟨dr,dout,dia,dib,dac,dbc⟩:=d;rcases hd with⟨r,rfl,hr⟩|⟨rfl,hL,hn⟩
  ·exact Ó ⟨gE,r,rfl,hr⟩
  ·refine Î (wpS_lift (ĸ ⟨rfl,?_⟩));refine Î (Ď (ĕ (I:=λx d aV=>GE key T a b _ cP d aV/\d.1=Z)
    ?_ (λd aV h=>h.1) ⟨⟨gE,.inr ⟨rfl,hL,hn⟩⟩,rfl⟩) ?_)
   ·rintro x d aV _ hx ⟨⟨mK,hd⟩,e1⟩;rcases hd with⟨r,e2,_⟩|⟨_,e3,e4⟩
    ·rw[e1] at e2;cases e2
    ·refine Ď (Qr C R mK kd e3 e4) λr R9 hr=>?_;cases r with
     |done d'=>exact hr
     |yield d'=>exact hr
   ·rintro d aV ⟨mK,hd⟩;obtain⟨er,eout,eia,eib,eg,eac,ebc⟩:=d;rcases hd with⟨r,rfl,hr⟩|⟨rfl,hL2,M8⟩
    ·exact Ó ⟨mK,r,rfl,hr⟩
    ·refine Î (ŕ (Ó ⟨?_,rfl,hL2,M8⟩));obtain⟨g,rfl⟩:=mK;exact⟨_,rfl⟩
theorem BY (C:mw Mq A E s O key knd D)(R:LR key D a b){st:È}{Q:Array Á->È->Prop}(kd:â st=knd)(sa:iO key a.toList)(sb:iO key b.toList)(ha:0<a.size)(hb:0<b.size)
  (first:∀y,b.toList[0]? = J y->∀x∈a.toList,O.kle (key y) (key x))
  (h:∀r g,r.toList.Perm (a.toList++b.toList)->iO key r.toList->Q r (eB st g)):wpS Mq A E s (uj a b) Q st:=by
 have nC:=by exact hb
 have m:=by
  have m0:MI key (a.toList++b.toList) _ (a.toList.drop 0) (b.toList.drop 0):=
   ⟨by simp,List.Pairwise.nil,sa,sb,λx hx=>absurd hx (by simp),λx hx=>absurd hx (by simp)⟩
  exact I0 m0 nC (λx hx=>first _ (Ø nC) x hx)
 have fin:∀r g,r6 key _ r->Q r _:=λr g hr=>h r g hr.1 hr.2;rw[xN];refine Î (wpS_lift (ĸ ⟨rfl,?_⟩));refine Î (bW (Ø nC) ?_);by_cases c:1=b.size
 ·rw[hV (by simpa using c)];exact Ó (fin _ _ (DX m c))
 ·rw[hU (by simpa using c)];by_cases c2:0+1=a.size
  ·rw[hV (by simpa using c2)];exact Ó (fin _ _ (R.fin m c2))
  ·rw[hU (by simpa using c2)];refine Î (Ľ ?_);refine Î (Ď (ĕ (I:=λx d aV=>(∃g,aV=eB st g)/\d.1=Z/\LI key _ a b d.2.1 d.2.2.1 d.2.2.2.1/\x<=d.2.2.1+d.2.2.2.1)
    (Q:=λd aV=>(∃g,aV=eB st g)/\∃r,d.1=J r/\r6 key (a.toList++b.toList) r) ?step ?fin ⟨⟨gallopOf st,rfl⟩,rfl,⟨by lia,by lia,m⟩,by lia⟩) ?post)
   case fin=>
    rintro d aV ⟨mK,e1,e2,e3⟩;have:=e2.ha;have:=e2.hb;(simp at *;lia)
   case step=>
    rintro x d aV _ hx ⟨mK,e1,e2,e3⟩;refine Ď (Qt C R mK kd e2) λr R9 hr=>?_;obtain⟨iK,hr⟩:=hr;cases r with
    |done d'=>exact⟨iK,hr⟩
    |yield d'=>exact⟨iK,hr.1,hr.2.1,by (simp at *;lia)⟩
   case post=>
    rintro d aV ⟨⟨g,rfl⟩,r,e,hr⟩;obtain⟨dr,d'⟩:=d;subst e;exact Ó (fin r g hr)
end
end Hc.Ts
namespace Hc.Ts
noncomputable def um:Array Á->Array Á->StateT È Sem (Array Á):=sortPriv% PySem.Builtin.mergeHi
noncomputable abbrev Oo:=Option (Array Á)×Nat×Nat×Array Á×Nat×Nat×Nat
noncomputable abbrev Sv:=Option (Array Á)×Nat×Nat×Array Á×Nat×Nat
noncomputable abbrev VC:=Option (Array Á)×Nat×Nat×Array Á×Nat
noncomputable def gx (a b out:Array Á)(na nb:Nat):Array Á:=a.extract 0 na++b.extract 0 nb++out.reverse
noncomputable def jN (a b out:Array Á)(na nb:Nat):Array Á:=b.extract 0 nb++a.extract 0 na++out.reverse
def Qu (a b out:Array Á)(na nb g k k1:Nat):StateT È Sem (ForInStep Oo):=do
 let x ←elem' a (na-1)
 if (na-1==0)=M then pure (.done (J (gx a b (out.push x) (na-1) nb),na-1,nb,out.push x,g,k,k1))
 else if (decide (k<7)&&decide (k1<7))=M then pure (.done (Z,na-1,nb,out.push x,g,k,k1))
 else pure (.yield (Z,na-1,nb,out.push x,g,k,k1))
def Qv (a b out:Array Á)(na nb g k bc:Nat):StateT È Sem (ForInStep Oo):=do
 let y ←elem' b (nb-1)
 if (nb-1==1)=M then pure (.done (J (jN a b (out.push y) na (nb-1)),na,nb-1,out.push y,g,k,bc))
 else do
  let x ←elem' a (na-1)
  let J l_ ←iU M x b 0 (nb-1) (nb-1-1)|pure (.done (J (gx a b (out.push y) na (nb-1)),na,nb-1,out.push y,g,k,bc))
  if nb-1-l_>0 then
   if (l_==1)=M then pure (.done (J (jN a b (out.push y++(b.extract l_ (nb-1)).reverse) na l_),na,l_,out.push y++(b.extract l_ (nb-1)).reverse,g,k,nb-1-l_))
   else if (l_==0)=M then pure (.done (J (gx a b (out.push y++(b.extract l_ (nb-1)).reverse) na l_),na,l_,out.push y++(b.extract l_ (nb-1)).reverse,g,k,nb-1-l_))
   else Qu a b (out.push y++(b.extract l_ (nb-1)).reverse) na l_ g k (nb-1-l_)
  else Qu a b (out.push y) na (nb-1) g k (nb-1-l_)
def Qw (a b out:Array Á)(na nb g ac bc:Nat):StateT È Sem (ForInStep Oo):=do
 fW g
 let y ←elem' b (nb-1)
 let J g6 ←iU Y y a 0 na (na-1)|pure (.done (J (gx a b out na nb),na,nb,out,g,ac,bc))
 if na-g6>0 then
  if (g6==0)=M then pure (.done (J (gx a b (out++(a.extract g6 na).reverse) g6 nb),g6,nb,out++(a.extract g6 na).reverse,g,na-g6,bc))
  else Qv a b (out++(a.extract g6 na).reverse) g6 nb g (na-g6) bc
 else Qv a b out na nb g (na-g6) bc
def WM (a b:Array Á)(_:Nat)(c:Oo):StateT È Sem (ForInStep Oo):=
 if c.2.2.2.2.1>1 then Qw a b c.2.2.2.1 c.2.1 c.2.2.1 (c.2.2.2.2.1-1) c.2.2.2.2.2.1 c.2.2.2.2.2.2
 else Qw a b c.2.2.2.1 c.2.1 c.2.2.1 c.2.2.2.2.1 c.2.2.2.2.2.1 c.2.2.2.2.2.2
def WN (a b:Array Á)(g:Nat)(_:Nat)(c:Sv):StateT È Sem (ForInStep Sv):=do
 let y ←elem' b (c.2.2.1-1)
 let x ←elem' a (c.2.1-1)
 let J aWins ←lt' y x|pure (.done (J (gx a b c.2.2.2.1 c.2.1 c.2.2.1),c.2.1,c.2.2.1,c.2.2.2.1,c.2.2.2.2.1,c.2.2.2.2.2))
 if aWins=M then do
  let x ←elem' a (c.2.1-1)
  if (c.2.1-1==0)=M then pure (.done (J (gx a b (c.2.2.2.1.push x) (c.2.1-1) c.2.2.1),c.2.1-1,c.2.2.1,c.2.2.2.1.push x,c.2.2.2.2.1+1,0))
  else if c.2.2.2.2.1+1≥g then pure (.done (Z,c.2.1-1,c.2.2.1,c.2.2.2.1.push x,c.2.2.2.2.1+1,0))
  else pure (.yield (Z,c.2.1-1,c.2.2.1,c.2.2.2.1.push x,c.2.2.2.2.1+1,0))
 else do
  let y ←elem' b (c.2.2.1-1)
  if (c.2.2.1-1==1)=M then pure (.done (J (jN a b (c.2.2.2.1.push y) c.2.1 (c.2.2.1-1)),c.2.1,c.2.2.1-1,c.2.2.2.1.push y,0,c.2.2.2.2.2+1))
  else if c.2.2.2.2.2+1≥g then pure (.done (Z,c.2.1,c.2.2.1-1,c.2.2.2.1.push y,0,c.2.2.2.2.2+1))
  else pure (.yield (Z,c.2.1,c.2.2.1-1,c.2.2.2.1.push y,0,c.2.2.2.2.2+1))
def WO (a b:Array Á)(_:Nat)(c:VC):StateT È Sem (ForInStep VC):=do
 let d ←forIn [0:a.size+b.size] (Z,c.2.1,c.2.2.1,c.2.2.2.1,0,0) (WN a b c.2.2.2.2)
 match d.1 with
 |some r=>pure (.done (J r,d.2.1,d.2.2.1,d.2.2.2.1,c.2.2.2.2))
 |none=>do
  liftM (rule "list.sort.gallop")
  let e ←forIn [0:a.size+b.size] (Z,d.2.1,d.2.2.1,d.2.2.2.1,c.2.2.2.2+1,d.2.2.2.2.1,d.2.2.2.2.2) (WM a b)
  match e.1 with
  |some r=>pure (.done (J r,e.2.1,e.2.2.1,e.2.2.2.1,e.2.2.2.2.1))
  |none=>do
   fW (e.2.2.2.2.1+1)
   pure (.yield (Z,e.2.1,e.2.2.1,e.2.2.2.1,e.2.2.2.2.1+1))
theorem xP (a b:Array Á):um a b=(do
  liftM (rule "list.sort.merge-hi")
  let x ←elem' a (a.size-1)
  if (a.size-1==0)=M then pure (gx a b #[x] (a.size-1) b.size)
  else if (b.size==1)=M then pure (jN a b #[x] (a.size-1) b.size)
  else do
   let st ←get
   let c ←forIn [0:a.size+b.size] ((Z,a.size-1,b.size,#[x],gallopOf st):VC) (WO a b)
   match c.1 with
   |some r=>pure r
   |none=>liftM (Ų "internal:list.sort.merge-bound")):=by kernel_rfl
section
variable {A:Ñ}{O:ľ}{key:Á->O.α}{knd:ĩ}{D:Á->Prop}
def xQ (a:Array Á)(n:Nat):(a.extract 0 n).toList=a.toList.take n:=by
 rw[Ϯ];rfl
def xR (a:Array Á)(i n:Nat):(a.extract i n).toList=(a.toList.take n).drop i:=by
 rw[Ϯ,List.drop_take]
def zL (a b out:Array Á)(na nb:Nat):(gx a b out na nb).toList=(a.toList.take na++b.toList.take nb)++out.toList.reverse:=by
 simp[gx,Ĳ,xQ,ϯ]
def Fw (a b out:Array Á)(na nb:Nat):(jN a b out na nb).toList=(b.toList.take nb++a.toList.take na)++out.toList.reverse:=by
 simp[jN,Ĳ,xQ,ϯ]
theorem pT {l:List Á}{n:Nat}(h0:0<n)(h:n-1<l.length):l.take n=l.take (n-1)++[l[n-1]]:=by
 obtain⟨m,rfl⟩:∃m,n=m+1:=⟨n-1,by lia⟩;exact ϙ h
def uo {l:List Á}{n:Nat}(h:k<=n):l.take n=l.take k++(l.take n).drop k:=by
 conv=>lhs;rw[<-Ł k (l.take n)]
 rw[List.take_take,ŧ h]
structure HI (key:Á->O.α)(T:List Á)(a b out:Array Á)(na nb:Nat):Prop where
 a0:0<na
 a1:na<=a.size
 b0:1<nb
 b1:nb<=b.size
 mh:MH key T (a.toList.take na) (b.toList.take nb) out.toList.reverse
structure HR (key:Á->O.α)(D:Á->Prop)(a b:Array Á):Prop where
 da:∀x∈a.toList,D x
 db:∀x∈b.toList,D x
 first:∀y,b.toList[0]? = J y->∀x∈a.toList,O.kle (key y) (key x)
variable {a b out:Array Á}{na nb:Nat}
theorem HR.fin (R:HR key D a b)(h:MH key T (a.toList.take na) (b.toList.take nb) out.toList.reverse)(e:nb=1):r6 key T (jN a b out na nb):=by
 unfold r6;rw[Fw];refine h.first λy hy x hx=>?_
 subst e;cases hb:b.toList with
 |nil=>rw[hb] at hy;cases hy
 |cons z r=>
  rw[hb] at hy;have:=by simpa using hy
  subst this;exact R.first y (by rw[hb];rfl) x (Ļ hx)
theorem xS (h:MH key T (a.toList.take na) (b.toList.take nb) out.toList.reverse)(e:na=0):r6 key T (gx a b out na nb):=by
 subst e;unfold r6;rw[zL];exact h.endB
theorem Qx (h:MH key T (a.toList.take na) (b.toList.take nb) out.toList.reverse)(e:nb=0):r6 key T (gx a b out na nb):=by
 subst e;unfold r6;rw[zL];rw[List.take_zero] at h |-;rw[ā];exact h.endA
theorem iz {l:List Á}{n:Nat}(h:iO key (l.take n))(h0:0<n)(hl:n-1<l.length):∀x∈l.take n,O.kle (key x) (key l[n-1]):=by
 intro x hx;rw[pT h0 hl] at h hx;rcases ñ.mp hx with hx|hx
 ·exact (bQ.mp h).2.2 x hx _ (by simp)
 ·rw[ð] at hx;subst hx;exact ň _
theorem BZ (h:MH key T (a.toList.take na) (b.toList.take nb) out.toList.reverse)(h0:0<na)(hl:na-1<a.toList.length)(hx:∀y∈b.toList.take nb,O.kle (key y) (key a.toList[na-1])):MH key T (a.toList.take (na-1)) (b.toList.take nb) (out.push a.toList[na-1]).toList.reverse:=by
 rw[ε,Ϣ];rw[pT h0 hl] at h;exact h.stepA λy hy x vt=>by rw[ð] at vt;subst vt;exact hx y hy
theorem I_ (h:MH key T (a.toList.take na) (b.toList.take nb) out.toList.reverse)(h0:0<nb)(hl:nb-1<b.toList.length)(hx:∀x∈a.toList.take na,O.kle (key x) (key b.toList[nb-1])):MH key T (a.toList.take na) (b.toList.take (nb-1)) (out.push b.toList[nb-1]).toList.reverse:=by
 rw[ε,Ϣ];rw[pT h0 hl] at h;exact h.stepB λx vt y hy=>by rw[ð] at hy;subst hy;exact hx x vt
def HE (key:Á->O.α)(T:List Á)(a b:Array Á)(n:Nat)(cP:È)(c:Oo)(st:È):Prop:=
 (∃g,st=eB cP g)/\((∃r,c.1=J r/\r6 key T r)\/(c.1=Z/\HI key T a b c.2.2.2.1 c.2.1 c.2.2.1/\c.2.1+c.2.2.1<=n))
def HS (key:Á->O.α)(T:List Á)(a b:Array Á)(n:Nat)(cP:È)(r:ForInStep Oo)(st:È):Prop:=
 match r with
 | .done c=>HE key T a b n cP c st
 | .yield c=>HE key T a b n cP c st/\c.1=Z
theorem D1 (R:HR key D a b){k1 n:Nat}{st cP:È}(gE:∃g,st=eB cP g)(h:HI key T a b out na nb)(hn:na+nb<=n)(hx:∀(hl:na-1<a.toList.length),∀y∈b.toList.take nb,O.kle (key y) (key a.toList[na-1])) :
  wpS Mq A E s (Qu a b out na nb g k k1) (HS key T a b n cP) st:=by
 have hl:na-1<a.toList.length:=by have:=h.a0;have:=h.a1;rw[í];grind
 have m:=BZ h.mh h.a0 hl (hx hl);refine Î (bW (Ø hl) ?_);by_cases c:na-1=0
 ·rw[hV (by simpa using c)];exact Ó ⟨gE,.inl ⟨_,rfl,xS m c⟩⟩
 ·rw[hU (by simpa using c)];have Lq:HI key T a b _ _ nb:=⟨by lia,by have:=h.a1;grind,h.b0,h.b1,m⟩;by_cases c2:(decide (k<7)&&decide (k1<7))=M
  ·rw[hV c2];exact Ó ⟨gE,.inr ⟨rfl,Lq,by (simp;lia)⟩⟩
  ·rw[hU c2];exact Ó ⟨⟨gE,.inr ⟨rfl,Lq,by (simp;lia)⟩⟩,rfl⟩
theorem D2 (C:mw Mq A E s O key knd D)(R:HR key D a b){n:Nat}{st cP:È}(gE:∃g,st=eB cP g)(kd:â cP=knd)(h:HI key T a b out na nb)(hn:na+nb<=n)(hx:∀(hl:nb-1<b.toList.length),∀x∈a.toList.take na,O.kle (key x) (key b.toList[nb-1])) :
  wpS Mq A E s (Qv a b out na nb g k bc) (HS key T a b n cP) st:=by
 have nC:nb-1<b.toList.length:=by have:=h.b0;have:=h.b1;rw[í];grind
 have vp:na-1<a.toList.length:=by have:=h.a0;have:=h.a1;rw[í];lia
 have b0:=h.b0;have b1:=h.b1;have a0:=h.a0;have a1:=h.a1;have m:=I_ h.mh (by lia) nC (hx nC);have KL:â st=knd:=by obtain⟨g,rfl⟩:=gE;exact kd
 refine Î (bW (Ø nC) ?_);by_cases c:nb-1=1
 ·rw[hV (by simpa using c)];exact Ó ⟨gE,.inl ⟨_,rfl,R.fin m c⟩⟩
 ·rw[hU (by simpa using c)];refine Î (bW (Ø vp) ?_);have ef:(b.toList.take (nb-1)).length=nb-1:=by rw[ÿ];grind
  have KN:=λQ=>mZ C (Q:=Q) (hint:=nb-1-1) (λi x e=>by
   rw[Ġ];rw[ϣ] at e;split at e
   ·exact e
   ·cases e) m.sb (λx hx=>R.db x (Ļ hx)) (R.da _ (ą vp)) KL (by grind)
  rw[ef] at KN;refine Î (KN _ λl_ KI p1 p2=>?_);dsimp only;rw[List.take_take,ŧ KI] at p1;by_cases c1:nb-1-l_>0
  ·rw[hV c1];have m2:MH key T (a.toList.take na) (b.toList.take l_) (out.push b.toList[nb-1]++(b.extract l_ (nb-1)).reverse).toList.reverse:=by
    rw[Ĳ,ϯ,Ϣ,List.reverse_reverse,xR];have m':=m;rw[uo (n:=nb-1) (by omega)] at m';exact m'.stepB λx vt y hy=>ĉ (iz h.mh.sa a0 vp x vt) (p2 y hy)
   by_cases c2:l_=1
   ·rw[hV (by simpa using c2)];exact Ó ⟨gE,.inl ⟨_,rfl,R.fin m2 c2⟩⟩
   ·rw[hU (by simpa using c2)];by_cases c3:l_=0
    ·rw[hV (by simpa using c3)];exact Ó ⟨gE,.inl ⟨_,rfl,Qx m2 c3⟩⟩
    ·rw[hU (by simpa using c3)];refine D1 R gE ⟨a0,a1,by lia,by grind,m2⟩ (by lia) λhl y hy=>ġ (p1 y hy)
  ·rw[hU c1];have:l_=nb-1:=by grind
   subst this;refine D1 R gE ⟨a0,a1,by lia,by (simp;lia),m⟩ (by grind) λhl y hy=>ġ (p1 y hy)
theorem D3 (C:mw Mq A E s O key knd D)(R:HR key D a b){ac n:Nat}{st cP:È}(gE:∃g,st=eB cP g)(kd:â cP=knd)(h:HI key T a b out na nb)(hn:na+nb<=n) :
  wpS Mq A E s (Qw a b out na nb g ac bc) (HS key T a b n cP) st:=by
 have nC:nb-1<b.toList.length:=by have:=h.b0;have:=h.b1;rw[í];lia
 have b0:=h.b0;have b1:=h.b1;have a0:=h.a0;have a1:=h.a1;have Bh:∃g',eB st g=eB cP g':=by obtain⟨g0,rfl⟩:=gE;exact⟨g,rfl⟩
 have KL:â (eB st g)=knd:=by obtain⟨g0,rfl⟩:=gE;exact kd
 refine Î (ŕ ?_);refine Î (bW (Ø nC) ?_);have ef:(a.toList.take na).length=na:=by rw[ÿ,í];lia
 have KN:=λQ=>mY C (Q:=Q) (hint:=na-1) (λi x e=>by
   rw[Ġ];rw[ϣ] at e;split at e
   ·exact e
   ·cases e) h.mh.sa (λx hx=>R.da x (Ļ hx)) (R.db _ (ą nC)) KL (by grind)
 rw[ef] at KN;refine Î (KN _ λg6 hk p1 p2=>?_);dsimp only;rw[List.take_take,ŧ hk] at p1;by_cases c1:na-g6>0
 ·rw[hV c1];have m2:MH key T (a.toList.take g6) (b.toList.take nb) (out++(a.extract g6 na).reverse).toList.reverse:=by
   rw[Ĳ,ϯ,Ϣ,List.reverse_reverse,xR];have m':=h.mh;rw[uo (by omega)] at m';exact m'.stepA λy hy x hx=>ĉ (iz h.mh.sb (by lia) nC y hy) (ġ (p2 x hx))
  by_cases c2:g6=0
  ·rw[hV (by simpa using c2)];exact Ó ⟨Bh,.inl ⟨_,rfl,xS m2 c2⟩⟩
  ·rw[hU (by simpa using c2)];exact D2 C R Bh kd ⟨by lia,by lia,b0,b1,m2⟩ (by lia) λhl x hx=>p1 x hx
 ·rw[hU c1];have:g6=na:=by grind
  subst this;exact D2 C R Bh kd h hn λhl x hx=>p1 x hx
theorem Qy (C:mw Mq A E s O key knd D)(R:HR key D a b){n:Nat}{c:Oo}{st cP:È}(gE:∃g,st=eB cP g)(kd:â cP=knd)(h:HI key T a b c.2.2.2.1 c.2.1 c.2.2.1)(hn:c.2.1+c.2.2.1<=n) :
  wpS Mq A E s (WM a b i c) (HS key T a b n cP) st:=by
 unfold WM;split
 ·exact D3 C R gE kd h hn
 ·exact D3 C R gE kd h hn
theorem Qz (C:mw Mq A E s O key knd D)(R:HR key D a b){c:Sv}{st:È}{Q:ForInStep Sv->È->Prop}(kd:â st=knd)(h:HI key T a b c.2.2.2.1 c.2.1 c.2.2.1)(h1:∀d:Sv,(∃r,d.1=J r/\r6 key T r)\/(d.1=Z/\HI key T a b d.2.2.2.1 d.2.1 d.2.2.1/\c.2.1+c.2.2.1=d.2.1+d.2.2.1+1)->Q (.done d) st)(h2:∀d:Sv,d.1=Z->HI key T a b d.2.2.2.1 d.2.1 d.2.2.1->c.2.1+c.2.2.1=d.2.1+d.2.2.1+1->Q (.yield d) st) :
  wpS Mq A E s (WN a b g i c) Q st:=by
 obtain⟨r0,na,nb,out,ac,bc⟩:=c;dsimp only at h h1 h2 |-;have nC:nb-1<b.toList.length:=by have:=h.b0;have:=h.b1;rw[í];lia
 have vp:na-1<a.toList.length:=by have:=h.a0;have:=h.a1;rw[í];lia
 have b0:=h.b0;have b1:=h.b1;have a0:=h.a0;have a1:=h.a1;unfold WN;refine Î (bW (Ø nC) ?_);refine Î (bW (Ø vp) ?_);refine Î (C.lt _ _ st _ (R.db _ (ą nC)) (R.da _ (ą vp)) kd ?_);cases e:O.blt _ _ with
 |true=>
  have m:=BZ h.mh a0 vp λy hy=>ĉ (iz h.mh.sb (by lia) nC y hy) (ġ e);refine Î (bW (Ø vp) ?_);by_cases c:na-1=0
  ·rw[hV (by simpa using c)];exact Ó (h1 _ (.inl ⟨_,rfl,xS m c⟩))
  ·rw[hU (by simpa using c)];have Lq:HI key T a b _ (na-1) nb:=⟨by lia,by (simp;lia),b0,b1,m⟩;split
   ·exact Ó (h1 _ (.inr ⟨rfl,Lq,by simp only;lia⟩))
   ·exact Ó (h2 _ rfl Lq (by simp only;lia))
 |false=>
  have m:=I_ h.mh (by lia) nC λx hx=>ĉ (iz h.mh.sa a0 vp x hx) (e);refine Î (bW (Ø nC) ?_);by_cases c:nb-1=1
  ·rw[hV (by simpa using c)];exact Ó (h1 _ (.inl ⟨_,rfl,R.fin m c⟩))
  ·rw[hU (by simpa using c)];have Lq:HI key T a b _ na (nb-1):=⟨a0,a1,by lia,by (simp;lia),m⟩;split
   ·exact Ó (h1 _ (.inr ⟨rfl,Lq,by simp only;lia⟩))
   ·exact Ó (h2 _ rfl Lq (by simp only;lia))
theorem QA (C:mw Mq A E s O key knd D)(R:HR key D a b){c:VC}{st cP:È}(gE:∃g,st=eB cP g)(kd:â cP=knd)(h:HI key T a b c.2.2.2.1 c.2.1 c.2.2.1) :
  wpS Mq A E s (WO a b i c) (λr aV=>(∃g,aV=eB cP g)/\match r with
   | .done d=>∃r,d.1=J r/\r6 key T r
   | .yield d=>d.1=Z/\HI key T a b d.2.2.2.1 d.2.1 d.2.2.1/\d.2.1+d.2.2.1+1<=c.2.1+c.2.2.1) st:=by
 obtain⟨r0,na,nb,out,g0⟩:=c;dsimp only at h |-;have KL:â st=knd:=by obtain⟨g,rfl⟩:=gE;exact kd
 have b0:=h.b0;have b1:=h.b1;unfold WO;refine Î (Ď (ĕ (I:=λx d aV=>aV=st/\d.1=Z/\HI key T a b d.2.2.2.1 d.2.1 d.2.2.1/\na+nb=d.2.1+d.2.2.1+x)
  (Q:=λd aV=>aV=st/\((∃r,d.1=J r/\r6 key T r)\/(d.1=Z/\HI key T a b d.2.2.2.1 d.2.1 d.2.2.1/\d.2.1+d.2.2.1+1<=na+nb))) ?step ?fin ⟨rfl,rfl,h,by rfl⟩) ?post)
 case fin=>
  rintro d aV ⟨rfl,e1,e2,e3⟩;exact⟨rfl,.inr ⟨e1,e2,by (simp at *;lia)⟩⟩
 case step=>
  rintro x d aV _ hx ⟨rfl,e1,e2,e3⟩;refine Qz C R KL e2 (λd' hd=>?_) λd' p1 p2 p3=>?_
  ·rcases hd with hd|⟨p1,p2,p3⟩
   ·exact⟨rfl,.inl hd⟩
   ·exact⟨rfl,.inr ⟨p1,p2,by simp[*]⟩⟩
  ·exact⟨rfl,p1,p2,by lia⟩
 case post=>
  rintro d aV ⟨rfl,hd⟩;obtain⟨dr,dna,dnb,dout,dac,dbc⟩:=d;dsimp only at hd |-;rcases hd with⟨r,rfl,hr⟩|⟨rfl,hL,hn⟩
  ·exact Ó ⟨gE,r,rfl,hr⟩
  ·refine Î (wpS_lift (ĸ ⟨rfl,?_⟩));refine Î (Ď (ĕ (I:=λx d aV=>HE key T a b (na+nb-1) cP d aV/\d.1=Z)
    ?_ (λd aV h=>h.1) ⟨⟨gE,.inr ⟨rfl,hL,by lia⟩⟩,rfl⟩) ?_)
   ·rintro x d aV _ hx ⟨⟨mK,hd⟩,e1⟩;rcases hd with⟨r,e2,_⟩|⟨_,e3,e4⟩
    ·lia
    ·refine Ď (Qy C R mK kd e3 e4) λr R9 hr=>?_;cases r with
     |done d'=>exact hr
     |yield d'=>exact hr
   ·rintro d aV ⟨mK,hd⟩;obtain⟨er,ena,enb,eout,eg,eac,ebc⟩:=d;dsimp only at hd |-;rcases hd with⟨r,rfl,hr⟩|⟨rfl,hL2,M8⟩
    ·exact Ó ⟨mK,r,rfl,hr⟩
    ·refine Î (ŕ (Ó ⟨?_,rfl,hL2,by lia⟩));obtain⟨g,rfl⟩:=mK;exact⟨_,rfl⟩
theorem B0 (C:mw Mq A E s O key knd D)(R:HR key D a b){st:È}{Q:Array Á->È->Prop}(kd:â st=knd)(sa:iO key a.toList)(sb:iO key b.toList)(ha:0<a.size)(hb:0<b.size)
  (last:∀i,i+1=a.size->∀y∈b.toList,∀x,a.toList[i]? = J x->O.kle (key y) (key x))
  (h:∀r g,r.toList.Perm (a.toList++b.toList)->iO key r.toList->Q r (eB st g)):wpS Mq A E s (um a b) Q st:=by
 have vp:a.size-1<a.toList.length:=by rw[í];omega
 have ta:a.toList.take a.size=a.toList:=Ξ (by simp);have tb:b.toList.take b.size=b.toList:=Ξ (by simp);have m:=by
  have m0:MH key (a.toList++b.toList) (a.toList.take a.size) (b.toList.take b.size) (#[]:Array Á).toList.reverse:=by
   rw[ta,tb];exact⟨by simp,List.Pairwise.nil,sa,sb,λx _ y hy=>absurd hy (by simp),λx _ y hy=>absurd hy (by simp)⟩
  exact BZ m0 ha vp (λy hy=>last _ (by grind) y (Ļ hy) _ (Ø vp))
 have fin:∀r g,r6 key _ r->Q r _:=λr g hr=>h r g hr.1 hr.2;rw[xP];refine Î (wpS_lift (ĸ ⟨rfl,?_⟩));refine Î (bW (Ø vp) ?_);by_cases c:a.size-1=0
 ·rw[hV (by simpa using c)];exact Ó (fin _ _ (xS m c))
 ·rw[hU (by simpa using c)];by_cases c2:b.size=1
  ·rw[hV (by simpa using c2)];exact Ó (fin _ _ (R.fin m c2))
  ·rw[hU (by simpa using c2)];refine Î (Ľ ?_);refine Î (Ď (ĕ (I:=λx d aV=>(∃g,aV=eB st g)/\d.1=Z/\HI key _ a b d.2.2.2.1 d.2.1 d.2.2.1/\d.2.1+d.2.2.1+x<=a.size+b.size)
    (Q:=λd aV=>(∃g,aV=eB st g)/\∃r,d.1=J r/\r6 key (a.toList++b.toList) r) ?step ?fin ⟨⟨gallopOf st,rfl⟩,rfl,⟨by lia,by simp,by (simp;lia),by simp only;lia,m⟩,by simp⟩) ?post)
   case fin=>
    rintro d aV ⟨mK,e1,e2,e3⟩;have:=e2.a0;(simp at *;lia)
   case step=>
    rintro x d aV _ hx ⟨mK,e1,e2,e3⟩;refine Ď (QA C R mK kd e2) λr R9 hr=>?_;obtain⟨iK,hr⟩:=hr;cases r with
    |done d'=>exact⟨iK,hr⟩
    |yield d'=>exact⟨iK,hr.1,hr.2.1,by (simp at *;lia)⟩
   case post=>
    rintro d aV ⟨⟨g,rfl⟩,r,e,hr⟩;obtain⟨dr,d'⟩:=d;subst e;exact Ó (fin r g hr)
end
end Hc.Ts
namespace Hc.Ts
noncomputable def oC (l:List Á)(sa:Nat)(a:Array Á):Array Á:=l.zipIdx.foldl (λa (p,j)=>a.setIfInBounds (sa+j) p) a
def T_ (x y:Array Á)(sa na nb:Nat):StateT È Sem Bool:=do
 let merged ←if na<=nb then uj x y else um x y
 modify λs=>setArr s (oC merged.toList sa (Ï s))
 let s ←get
 pure (Ĵ s).isNone
section
variable {A:Ñ}{O:ľ}{key:Á->O.α}{knd:ĩ}{D:Á->Prop}
theorem uq:∀(l m P S:List Á) (n sa:Nat) (a:Array Á),m.length=l.length->sa+n=P.length->a.toList=P++(m++S)->((l.zipIdx n).foldl (λa (p,j)=>a.setIfInBounds (sa+j) p) a).toList=P++(l++S)
 | [],m,P,S,n,sa,a,h1,h2,h3=>by
  have:=ş h1;subst this;exact h3
 |p::l,[],P,S,n,sa,a,h1,h2,h3=>by cases h1
 |p::l,q::m,P,S,n,sa,a,h1,h2,h3=>by
  rw[List.zipIdx_cons,List.foldl_cons];have h4:(a.setIfInBounds (sa+n) p).toList=(P++[p])++(m++S):=by
   simp[*]
  have:=uq l m _ S (n+1) sa _ (by simpa using h1) (by rw[Þ,Ϝ];lia) h4;rw[this];simp
theorem Fx {l m P:List Á}{sa:Nat}{a:Array Á}(h1:m.length=l.length)(h2:sa=P.length)(h3:a.toList=P++(m++S)):(oC l sa a).toList=P++(l++S):=
 uq l m P S 0 sa a h1 (by lia) h3
theorem L8 (C:mw Mq A E s O key knd D){P x y:List Á}{sa:Nat}{st:È}{Q:Bool->È->Prop}{ax ay:Array Á}{na nb:Nat}(ex:ax.toList=x)(ey:ay.toList=y)(hf:Ĵ st=Z)(kd:â st=knd)(ha:(Ï st).toList=P++((x++y)++S))(hs:sa=P.length)(dx:∀p∈x,D p)(dy:∀p∈y,D p)(sx:iO key x)(sy:iO key y)(x0:0<x.length)(y0:0<y.length)(first:∀q,y[0]? = J q->∀p∈x,O.kle (key q) (key p))(last:∀i,i+1=x.length->∀q∈y,∀p,x[i]? = J p->O.kle (key q) (key p))(h:∀z g,z.Perm (x++y)->iO key z->Q M (eB (setArr st (P++(z++S)).toArray) g)):wpS Mq A E s (T_ ax ay sa na nb) Q st:=by
 subst ex;subst ey;have fin:∀(r:Array Á) (g:Nat),r.toList.Perm (ax.toList++ay.toList)->iO key r.toList->wpS Mq A E s (do
   modify λs=>setArr s (oC r.toList sa (Ï s))
   let s ←get
   pure (Ĵ s).isNone) Q (eB st g):=by
  intro r g hp hr;refine Î (ŕ ?_);refine Î (Ľ (Ó ?_));have e1:oC r.toList sa (Ï st)=(P++(r.toList++S)).toArray:=by
   apply Array.ext';rw[Fx hp.length_eq.symm hs ha]
  have e2:=by
   show (Ĵ st).isNone=M;rw[hf];rfl
  rw[e2];have e3:setArr (eB st g) (oC r.toList sa (Ï (eB st g)))=eB (setArr st (P++(r.toList++S)).toArray) g:=by
   rw[<-e1]
  rw[e3];exact h r.toList g hp hr
 unfold T_;split
 ·refine Î ?_;exact BY C ⟨dx,dy,λi hi=>last i (by exact hi)⟩ kd sx sy (by simpa using x0) (by simpa using y0) first fin
 ·refine Î ?_;exact B0 C ⟨dx,dy,first⟩ kd sx sy (by simpa using x0) (by simpa using y0) (λi hi=>last i (by exact hi)) fin
def L9 {L:Type}{st aV:L}{Q:PUnit->L->Prop}(h:Q ⟨⟩ aV):wpS Mq A E s (set aV:StateT L Sem PUnit) Q st:=by
 exact Ë ⟨rfl,h⟩
theorem xT {l P x R:List Á}(h:l=P++(x++R))(i:Nat)(p:Á)(e:x[i]? = J p):l[P.length+i]? = J p:=by
 have hi:i<x.length:=by
  rcases ņ i x.length with h|h
  ·exact h
  ·rw[π h] at e;cases e
 rw[h,Š (İ _ _),Ψ,Ŵ hi,e]
noncomputable def D4 (p:Array (Nat×Nat×Nat))(i sa n pw:Nat):Array (Nat×Nat×Nat):=(p.setIfInBounds i (sa,n,pw)).eraseIdxIfInBounds (i+1)
theorem B1 (C:mw Mq A E s O key knd D){P x y:List Á}{pw pw2:Nat}{st:È}{Q:Bool->È->Prop}(hf:Ĵ st=Z)(kd:â st=knd)(ha:(Ï st).toList=P++(x++(y++S)))(h1:(ï st)[i]? = J (P.length,x.length,pw))(h2:(ï st)[i+1]? = J (P.length+x.length,y.length,pw2))(dx:∀p∈x,D p)(dy:∀p∈y,D p)(sx:iO key x)(sy:iO key y)(x0:0<x.length)(y0:0<y.length)(h:∀z g,z.Perm (x++y)->iO key z->Q M (eB (setArr (setPending st (D4 (ï st) i P.length (x.length+y.length) pw)) (P++(z++S)).toArray) g)):wpS Mq A E s (mergeAt' i) Q st:=by
 have all:∀(hz:iO key (x++y)),Q M (setPending st (D4 (ï st) i P.length (x.length+y.length) pw)):=by
  intro hz;have:=h (x++y) (gallopOf st) (Ŀ _) hz;have e:(P++(x++y++S)).toArray=Ï st:=by
   apply Array.ext';rw[ha,õ]
  rw[e] at this;exact this
 have SO:(Ï st).toList=(P++x)++(y++S):=by rw[ha,õ]
 refine Î (Ľ ?_);rw[h1,h2];refine Î (L9 ?_);have ey:=by
  have:=xT SO 0 y[0] (Ø y0);rw[Þ] at this;exact this
 refine Î (bW ey ?_);refine Î (mY C (λi p e=>xT ha i p e) sx dx (dy _ (ą y0)) kd x0 λk hk p1 p2=>?_);dsimp only;have yh:∀q∈y,O.kle (key y[0]) (key q):=by
  simp_all[kO]
 by_cases c:x.length-k=0
 ·rw[hV (by simpa using c)];refine Ó (all ?_);have:x.take k=x:=Ξ (by grind);rw[this] at p1;exact bQ.mpr ⟨sx,sy,λp hp q hq=>ĉ (p1 p hp) (yh q hq)⟩
 ·rw[hU (by simpa using c)];have VS:x.length-1<x.length:=by lia
  have ZK:(Ï st).toList[P.length+k+(x.length-k)-1]? = J x[x.length-1]:=by
   have:=xT ha _ _ (Ø VS);rw[show P.length+k+(x.length-k)-1=P.length+(x.length-1) by lia];exact this
  refine Î (bW ZK ?_);refine Î (mZ C (λi p e=>by have:=xT SO i p e;rw[Þ] at this;exact this) sy dy (dx _ (ą VS)) kd (by lia) λnb ZL q1 q2=>?_);dsimp only;have O9:=by
   have:=iz (by rw[ź];exact sx) x0 VS;rw[ź] at this;exact this
  by_cases c2:nb=0
  ·rw[hV (by simpa using c2)];refine Ó (all ?_);subst c2;exact bQ.mpr ⟨sx,sy,λp hp q hq=>ĉ (O9 p hp) (q2 q hq)⟩
  ·rw[hU (by simpa using c2)];have xs:=(Ł k x).symm;have ys:=(Ł nb y).symm;obtain⟨sx1,sx2,sx3⟩:=bQ.mp (xs▸sx);obtain⟨sy1,sy2,sy3⟩:=bQ.mp (ys▸sy);refine L8 C (P:=P++x.take k) (S:=y.drop nb++S) ?ex ?ey hf kd ?ha ?hs (λp hp=>dx p (Ź hp)) (λp hp=>dy p (Ļ hp)) sx2 sy1 (by rw[ē];lia) (by rw[ÿ];lia) ?first ?last λz g hz sz=>?_
   case ex=>
    rw[xR,SO];rw[show P.length+x.length=(P++x).length by rw[Þ]];rw[List.take_left,List.drop_append,ϟ (by lia),Ψ];rfl
   case ey=>
    rw[xO,SO];rw[show P.length+x.length=(P++x).length by rw[Þ],List.drop_left,List.take_append_of_le_length ZL]
   case ha=>
    rw[ha]
    conv=>lhs;rw[xs,ys]
    simp only[õ]
   case hs=>rw[Þ,ÿ];lia
   case first=>
    intro q hq p hp;have:(y.take nb)[0]? = y[0]? := by rw[ϣ,hV (by lia)]
    rw[this,Ø y0] at hq;injection hq with hq
    subst hq;exact ġ (p2 p hp)
   case last=>
    intro i hi q hq p hp;rw[ē] at hi;rw[aei,show k+i=x.length-1 by grind,Ø VS] at hp;injection hp with hp
    subst hp;exact ġ (q1 q hq)
   have mz:∀r∈z,r∈x.drop k\/r∈y.take nb:=λr hr=>ñ.mp (hz.mem_iff.mp hr);have ZM:(x.take k++(z++y.drop nb)).Perm (x++y):=by
    have e:x++y=x.take k++((x.drop k++y.take nb)++y.drop nb):=by
     conv=>lhs;rw[xs,ys]
     simp only[õ]
    rw[e];exact Ŗ _ (ŭ _ hz)
   have ZN:=by
    refine bQ.mpr ⟨sx1,bQ.mpr ⟨sz,sy2,λp hp q hq=>?_⟩,λp hp q hq=>?_⟩
    ·rcases mz p hp with hp|hp
     ·exact ĉ (O9 p (Ź hp)) (q2 q hq)
     ·exact sy3 p hp q hq
    ·rcases ñ.mp hq with hq|hq
     ·rcases mz q hq with hq|hq
      ·exact sx3 p hp q hq
      ·exact ĉ (p1 p hp) (yh q (Ļ hq))
     ·exact ĉ (p1 p hp) (yh q (Ź hq))
   have:=h _ g ZM ZN;have e:P++(x.take k++(z++y.drop nb)++S)=P++x.take k++(z++(y.drop nb++S)):=by simp
   rw[e] at this;exact this
end
end Hc.Ts
namespace Hc.Ts
noncomputable def Ja (lo n m:Nat):StateT È Sem AscSt:=forIn [n:m] ((Z,n):AscSt) λ_ c=>do
 let J sm ←ltAt' (lo+c.2) (lo+c.2-1)|pure (.done (J Z,c.2))
 if sm=M then pure (.done (Z,c.2)) else pure (.yield (Z,c.2+1))
def Jb (lo n m:Nat):StateT È Sem (Option Nat):=do
 Ϗ lo (lo+n)
 let c ←Ja lo n m
 match c.1 with
 |some r=>pure r
 |none=>pure (J c.2)
noncomputable def Oq (lo:Nat)(c:DescSt):StateT È Sem (ForInStep DescSt):=do
 let J sm ←ltAt' (lo+c.2.1) (lo+c.2.1-1)|pure (.done (J Z,c.2.1,c.2.2))
 if sm=M then
  if c.2.2>0 then do
   Ϗ (lo+c.2.1-(c.2.2+1)) (lo+c.2.1)
   pure (.yield (Z,c.2.1+1,0))
  else pure (.yield (Z,c.2.1+1,0))
 else do
  let J lg ←ltAt' (lo+c.2.1-1) (lo+c.2.1)|pure (.done (J Z,c.2.1,c.2.2))
  if lg=M then pure (.done (Z,c.2.1,c.2.2)) else pure (.yield (Z,c.2.1+1,c.2.2+1))
def Ot (lo n m:Nat):StateT È Sem DescSt:=forIn [n:m] ((Z,n,0):DescSt) λ_ c=>Oq lo c
def Jc (lo n m:Nat):StateT È Sem (Option Nat):=do
 liftM (rule "list.sort.descending-run")
 let c ←Ot lo (n+1) m
 match c.1 with
 |some r=>pure r
 |none=>
  if c.2.2>0 then do
   Ϗ (lo+c.2.1-(c.2.2+1)) (lo+c.2.1)
   Jb lo c.2.1 m
  else Jb lo c.2.1 m
theorem zM (lo m:Nat):countRun' lo m=(do
  let c ←Ja lo 1 m
  match c.1 with
  |some r=>pure r
  |none=>
   if (c.2==m)=M then pure (J c.2)
   else if c.2>1 then do
    let J rs ←ltAt' lo (lo+c.2-1)|pure Z
    if rs=M then pure (J c.2)
    else do
     Ϗ lo (lo+c.2)
     Jc lo c.2 m
   else Jc lo c.2 m):=by kernel_rfl
section
variable {A:Ñ}{O:ľ}{key:Á->O.α}{knd:ĩ}{D:Á->Prop}{lo:Nat}{a0:Array Á}{cP:È}
noncomputable def kx (key:Á->O.α)(l:Array Á)(i:Nat):O.α:=key ((l[i]?).getD (Value.none,Value.none))
def zN {l m:Array Á}(h:l[i]? = m[j]?):kx key l i=kx key m j:=by unfold kx;rw[h]
theorem B2 {l:Array Á}{n:Nat}(hm:lo+m<=l.size)(k:Nat):kx key (mirror l (lo+n) (lo+m) ((lo+m-(lo+n)) / 2)) (lo+k)=if n<=k/\k<m then kx key l (lo+(n+m-1-k)) else kx key l (lo+k):=by
 have e:=getElem?_mirror_all (i:=lo+n) hm (lo+k);by_cases c:n<=k/\k<m
 ·rw[hV (by simp[*])] at e;rw[hV c];exact zN (e.trans (by congr 1;lia))
 ·rw[hU (by simp[*])] at e;rw[hU c];exact zN e
theorem f7 {l:Array Á}{n:Nat}(hm:lo+m<=l.size)(he:∀k,n<=k->k<m->kx key l (lo+k)=kx key l (lo+m-1))(k:Nat):kx key (mirror l (lo+n) (lo+m) ((lo+m-(lo+n)) / 2)) (lo+k)=kx key l (lo+k):=by
 grind[B2]
theorem Jd {l:Array Á}{p:Nat}(hp:lo+p<l.size)(hd:d<=p)(k:Nat):kx key (bubble l (lo+p) d) (lo+k)=if k=p-d then kx key l (lo+p) else if p-d<k/\k<=p then kx key l (lo+(k-1)) else kx key l (lo+k):=by
 have e:=getElem?_bubble hp d (by lia) (lo+k);by_cases c:k=p-d
 ·rw[hV (by omega)] at e;rw[hV c];exact zN e
 ·rw[hU (by lia)] at e;rw[hU c];by_cases c2:p-d<k/\k<=p
  ·rw[hV (by (simp;lia))] at e;rw[hV c2];exact zN (e.trans (by congr 1;lia))
  ·rw[hU (by (simp at *;lia))] at e;rw[hU c2];exact zN e
def Gk (key:Á->O.α)(lo:Nat)(l:Array Á)(n:Nat):Prop:=∀i j,i<=j->j<n->O.kle (kx key l (lo+i)) (kx key l (lo+j))
def Sw (key:Á->O.α)(lo:Nat)(l:Array Á)(n:Nat):Prop:=∀i j,i<=j->j<n->O.kle (kx key l (lo+j)) (kx key l (lo+i))
structure SB (lo:Nat)(a0:Array Á)(cP st:È):Prop where
 perm:(Ï st).Perm a0
 same:∀k,k<lo->(Ï st)[k]? = a0[k]?
 rest:st=setArr cP (Ï st)
def SB.size {st:È}(h:SB lo a0 cP st):(Ï st).size=a0.size:=h.perm.size_eq
theorem SB.put {st:È}(h:SB lo a0 cP st){l:Array Á}(hp:l.Perm (Ï st))(hs:∀k,k<lo->l[k]? = (Ï st)[k]?):SB lo a0 cP (setArr st l):=by
 refine⟨hp.trans h.perm,λk hk=>(hs k hk).trans (h.same k hk),?_⟩;have:=h.rest;generalize Ï st=z at this;subst this;rfl
theorem SB.mir {st:È}(h:SB lo a0 cP st){n:Nat}(hm:lo+m<=a0.size):SB lo a0 cP (setArr st (mirror (Ï st) (lo+n) (lo+m) ((lo+m-(lo+n)) / 2))):=by
 refine h.put (mirror_perm _ _ _ _) λk hk=>?_;rw[getElem?_mirror_all (by rw[h.size];exact hm),hU (by lia)]
theorem SB.bub {st:È}(h:SB lo a0 cP st){p:Nat}(hp:lo+p<a0.size)(hd:d<=p):SB lo a0 cP (setArr st (bubble (Ï st) (lo+p) d)):=by
 refine h.put (bubble_perm _ _ _) λk hk=>?_;rw[getElem?_bubble (by rw[h.size];exact hp) d (by lia),hU (by lia),hU (by lia)]
def SB.kind {st:È}(h:SB lo a0 cP st)(kd:â cP=knd):â st=knd:=by rw[h.rest];exact kd
theorem ur (C:mw Mq A E s O key knd D){st:È}{Q:Option Bool->È->Prop}(kd:â cP=knd)(hD:∀p∈a0.toList,D p)(hB:SB lo a0 cP st)(hi:i<a0.size)(hj:j<a0.size)(h:Q (J (O.blt (kx key (Ï st) i) (kx key (Ï st) j))) st):wpS Mq A E s (ltAt' i j) Q st:=by
 have fd:∀i,i<a0.size->∃p,(Ï st)[i]? = J p/\D p/\kx key _ i=key p:=λi hi=>by
  have Gq:i<(Ï st).size:=by rw[hB.size];exact hi
  refine⟨(Ï st)[i],getElem?_pos _ i Gq,hD _ ((afd.mp hB.perm).mem_iff.mp (by simp)),?_⟩;unfold kx;rw[getElem?_pos _ i Gq];rfl
 obtain⟨p,e1,d1,k1⟩:=fd i hi;obtain⟨q,e2,d2,k2⟩:=fd j hj;rw[k1,k2] at h;rw[ltAt'_eq];refine Î (Ľ ?_);dsimp only;rw[elem'_eq,elem'_eq,e1,e2];exact C.lt p q st Q d1 d2 (hB.kind kd) h
def xU {st:È}{Q:Unit->È->Prop}(h:Q () (setArr st (mirror (Ï st) i j ((j-i) / 2)))):wpS Mq A E s (Ϗ i j) Q st:=by
 exact ŕ h
theorem zO (C:mw Mq A E s O key knd D){st:È}{n:Nat}{Q:AscSt->È->Prop}(kd:â cP=knd)(hD:∀p∈a0.toList,D p)(hm:lo+m<=a0.size)(n1:1<=n)(nm:n<=m)(hB:SB lo a0 cP st)(ha:Gk key lo (Ï st) n)(h:∀r,n<=r->r<=m->Gk key lo (Ï st) r->(r=m\/O.klt (kx key (Ï st) (lo+r)) (kx key (Ï st) (lo+r-1)))->Q (Z,r) st):wpS Mq A E s (Ja lo n m) Q st:=by
 refine ĕ (I:=λx c aV=>aV=st/\c=(Z,x)/\Gk key lo _ x) ?go ?out ⟨rfl,rfl,ha⟩
 case out=>
  rintro c aV ⟨rfl,rfl,CG⟩;have e:max n m=m:=by lia
  rw[e] at CG |-;exact h m nm (Ð _) CG (.inl rfl)
 case go=>
  rintro x c aV h1 h2 ⟨rfl,rfl,CG⟩;refine Î (ur C kd hD hB (by lia) (by lia) ?_);cases e:O.blt _ _ with
  |true=>
   exact Ó (h x h1 (by lia) CG (.inr e))
  |false=>
   refine Ó ⟨rfl,rfl,λi j Bg hj=>?_⟩;by_cases c1:j<x
   ·exact CG i j Bg c1
   ·have:j=x:=by (simp at *;lia)
    subst this;by_cases c2:i=j
    ·grind[ň]
    ·have:=CG i (j-1) (by lia) (by lia);rw[show lo+(j-1)=lo+j-1 by lia] at this;exact ĉ this e
theorem zQ (C:mw Mq A E s O key knd D){st:È}{n:Nat}{Q:Option Nat->È->Prop}(kd:â cP=knd)(hD:∀p∈a0.toList,D p)(hm:lo+m<=a0.size)(n1:1<=n)(nm:n<=m)(hB:SB lo a0 cP st)(hd:Sw key lo (Ï st) n)(h:∀r aV,SB lo a0 cP aV->1<=r->r<=m->Gk key lo (Ï aV) r->Q (J r) aV):wpS Mq A E s (Jb lo n m) Q st:=by
 refine Î (xU ?_);have VT:=hB.mir (n:=0) (m:=n) (by lia);have hz:lo+n<=(Ï st).size:=by rw[hB.size];lia
 refine Î (zO C kd hD hm n1 nm VT (λi j Bg hj=>?_) λr r1 r2 r3 _=>Ó (h r _ VT (by lia) r2 r3));have e1:=B2 (key:=key) (n:=0) hz i;have e2:=B2 (key:=key) (n:=0) hz j;rw[Nat.add_zero,hV (by lia)] at e1 e2;rw[e1,e2];exact hd _ _ (by (simp;lia)) (by grind)
theorem Je (C:mw Mq A E s O key knd D){st:È}{n:Nat}{Q:DescSt->È->Prop}(kd:â cP=knd)(hD:∀p∈a0.toList,D p)(hm:lo+m<=a0.size)(n1:1<=n)(nm:n<=m)(hB:SB lo a0 cP st)(hd:Sw key lo (Ï st) n)(h:∀r q aV,SB lo a0 cP aV->n<=r->r<=m->Sw key lo (Ï aV) r->q+1<=r->(∀i,r-(q+1)<=i->i<r->kx key (Ï aV) (lo+i)=kx key (Ï aV) (lo+r-1))->Q (Z,r,q) aV):wpS Mq A E s (Ot lo n m) Q st:=by
 refine ĕ (I:=λx c aV=>∃q,c=(Z,x,q)/\SB lo a0 cP aV/\Sw key lo (Ï aV) x/\q+1<=x/\∀i,x-(q+1)<=i->i<x->kx key (Ï aV) (lo+i)=kx key (Ï aV) (lo+x-1)) ?go ?out
  ⟨0,rfl,hB,hd,by lia,λi a1 a2=>by congr 1;(simp at *;lia)⟩
 case out=>
  rintro c aV ⟨q,rfl,b1,b2,b3,b4⟩;have e:max n m=m:=by lia
  rw[e] at b2 b3 b4 |-;exact h m q aV b1 nm (Ð _) b2 b3 b4
 case go=>
  rintro x c aV h1 h2 ⟨q,rfl,b1,b2,b3,b4⟩;have hz:lo+x<=(Ï aV).size:=by rw[b1.size];lia
  unfold Oq;dsimp only;refine Î (ur C kd hD b1 (by lia) (by lia) ?_);cases e:O.blt _ _ with
  |true=>
   have nx:∀l ,(∀k,kx key l (lo+k)=kx key (Ï aV) (lo+k))->Sw key lo l (x+1):=by
    intro l hl i j Bg hj;rw[hl,hl];by_cases c1:j<x
    ·exact b2 i j Bg c1
    ·have:j=x:=by lia
     subst this;by_cases c2:i=j
     ·grind[ň]
     ·have:=b2 i (j-1) (by lia) (by lia);rw[show lo+(j-1)=lo+j-1 by lia] at this;exact ĉ (ġ e) this
   by_cases c:q>0
   ·rw[hV c];refine Î (xU ?_);have e3:lo+x-(q+1)=lo+(x-(q+1)):=by lia
    rw[e3];refine Ó ⟨0,rfl,b1.mir (by lia),nx _ (f7 hz b4),by lia,λi a1 a2=>?_⟩;congr 1;(simp;lia)
   ·rw[hU c];exact Ó ⟨0,rfl,b1,nx _ (λ_=>rfl),by lia,λi a1 a2=>by congr 1;(simp;lia)⟩
  |false=>
   refine Î (ur C kd hD b1 (by lia) (by lia) ?_);cases e2:O.blt _ _ with
   |true=>
    exact Ó (h x q aV b1 h1 (by lia) b2 b3 b4)
   |false=>
    have eq:=KeyOrd.kle_antisymm e2 e;refine Ó ⟨q+1,rfl,b1,λi j Bg hj=>?_,by lia,λi a1 a2=>?_⟩
    ·by_cases c1:j<x
     ·exact b2 i j Bg c1
     ·have:j=x:=by lia
      subst this;by_cases c2:i=j
      ·grind[ň]
      ·rw[eq];have:=b2 i (j-1) (by lia) (by lia);rw[show lo+(j-1)=lo+j-1 by lia] at this;exact this
    grind
theorem zS (C:mw Mq A E s O key knd D){st:È}{n:Nat}{Q:Option Nat->È->Prop}(kd:â cP=knd)(hD:∀p∈a0.toList,D p)(hm:lo+m<=a0.size)(nm:n+1<=m)(hB:SB lo a0 cP st)(hd:Sw key lo (Ï st) (n+1))(h:∀r aV,SB lo a0 cP aV->1<=r->r<=m->Gk key lo (Ï aV) r->Q (J r) aV):wpS Mq A E s (Jc lo n m) Q st:=by
 refine Î (wpS_lift (ĸ ⟨rfl,?_⟩));refine Î (Je C kd hD hm (by lia) nm hB hd λr q aV b1 r1 r2 b2 b3 b4=>?_);dsimp only;have hz:lo+r<=(Ï aV).size:=by rw[b1.size];lia
 by_cases c:q>0
 ·rw[hV c];refine Î (xU ?_);have e3:lo+r-(q+1)=lo+(r-(q+1)):=by lia
  rw[e3];refine zQ C kd hD hm (by lia) r2 (b1.mir (by lia)) (λi j Bg hj=>?_) h;have e1:=f7 hz b4 i;have e2:=f7 hz b4 j;rw[e1,e2];exact b2 i j Bg hj
 ·rw[hU c];exact zQ C kd hD hm (by simp_all) r2 b1 b2 h
theorem zT (C:mw Mq A E s O key knd D){st:È}{Q:Option Nat->È->Prop}(kd:â cP=knd)(hD:∀p∈a0.toList,D p)(hm:lo+m<=a0.size)(m1:1<=m)(hB:SB lo a0 cP st)(h:∀r aV,SB lo a0 cP aV->1<=r->r<=m->Gk key lo (Ï aV) r->Q (J r) aV):wpS Mq A E s (countRun' lo m) Q st:=by
 rw[zM];refine Î (zO C kd hD hm (Ð 1) m1 hB (λi j Bg hj=>by rw[show i=j by lia];exact ň _) λn n1 n2 ha ho=>?_);by_cases c:n=m
 ·rw[hV (by simpa using c)];exact Ó (h n st hB n1 n2 ha)
 ·rw[hU (by simpa using c)];have hl:=ho.resolve_left c;by_cases c2:n>1
  ·rw[hV c2];refine Î (ur C kd hD hB (by lia) (by lia) ?_);cases e:O.blt _ _ with
   |true=>
    exact Ó (h n st hB n1 n2 ha)
   |false=>
    have hz:lo+n<=(Ï st).size:=by rw[hB.size];lia
    have al:∀k,0<=k->k<n->kx key (Ï st) (lo+k)=kx key (Ï st) (lo+n-1):=by
     intro k _ hk;have p1:=ha 0 k (by lia) hk;have p2:=ha k (n-1) (by grind) (by lia);rw[show lo+(n-1)=lo+n-1 by lia] at p2;exact KeyOrd.kle_antisymm p2 (ĉ (e) p1)
    refine Î (xU ?_);have VT:=hB.mir (n:=0) (m:=n) (by lia);refine zS C kd hD hm (by lia) VT (λi j Bg hj=>?_) h;have e1:=f7 hz al i;have e2:=f7 hz al j;rw[Nat.add_zero] at e1 e2;grind[ň,ġ]
  ·have:n=1:=by lia
   subst this;refine zS C kd hD hm (by lia) hB (λi j Bg hj=>?_) h;by_cases c4:i=j
   ·subst c4;exact ň _
   ·have XJ:i=0:=by (simp at *;lia)
    have ZO:j=1:=by (simp at *;lia)
    subst XJ;subst ZO;exact ġ hl
theorem B3 (C:mw Mq A E s O key knd D){st:È}{n ok:Nat}{Q:Bool->È->Prop}(kd:â cP=knd)(hD:∀p∈a0.toList,D p)(hn:lo+n<=a0.size)(hok:ok<=n)(hB:SB lo a0 cP st)(ha:Gk key lo (Ï st) ok)
  (h:∀aV,SB lo a0 cP aV->Gk key lo (Ï aV) n->Q M aV):wpS Mq A E s (binarySort' lo n ok) Q st:=by
 rw[binarySort'_eq];refine Î (Ď (ĕ (I:=λk c aV=>c=(Z,())/\SB lo a0 cP aV/\Gk key lo (Ï aV) (min k n))
  (Q:=λc aV=>c=(Z,())/\SB lo a0 cP aV/\Gk key lo (Ï aV) n) ?go ?out ?g6) ?end_)
 case end_=>
  rintro c aV ⟨rfl,b1,b2⟩;exact Ó (h aV b1 b2)
 case g6=>
  refine⟨rfl,hB,λi j Bg hj=>?_⟩;by_cases c:ok=0
  ·grind[ň]
  ·exact ha i j Bg (by lia)
 case out=>
  lia
 case go=>
  rintro k c CC KI YL ⟨rfl,b1,b2⟩;have e1:min k n=k:=by lia
  rw[e1] at b2;have hk:lo+k<a0.size:=by lia
  refine Î (Ď (ĕ (I:=λx c nE=>nE=CC/\∃l r,c=(Z,l,r)/\l<=r/\r<=k/\r-l<=k-x/\
    (∀i,i<l->O.kle (kx key (Ï CC) (lo+i)) (kx key (Ï CC) (lo+k)))/\∀i,r<=i->i<k->O.klt (kx key (Ï CC) (lo+k)) (kx key (Ï CC) (lo+i)))
   (Q:=λc nE=>nE=CC/\∃l,c=(Z,l,l)/\l<=k/\(∀i,i<l->O.kle (kx key (Ï CC) (lo+i)) (kx key (Ï CC) (lo+k)))/\∀i,l<=i->i<k->O.klt (kx key (Ï CC) (lo+k)) (kx key (Ï CC) (lo+i))) ?go2 ?out2 ?MO) ?end2)
  case MO=>exact⟨rfl,0,k,rfl,by lia,by lia,by lia,λi hi=>by lia,λi a1 a2=>by lia⟩
  case out2=>
   rintro c nE ⟨rfl,l,r,rfl,q1,q2,q3,q4,q5⟩;have:l=r:=by (simp at *;lia)
   subst this;exact⟨rfl,l,rfl,q2,q4,q5⟩
  case go2=>
   rintro x c nE _ hx ⟨rfl,l,r,rfl,q1,q2,q3,q4,q5⟩;dsimp only;by_cases c:l≥r
   ·rw[hV c];have:l=r:=by lia
    subst this;exact Ó ⟨rfl,l,rfl,q2,q4,q5⟩
   ·rw[hU c];refine Î (ur C kd hD b1 hk (by lia) ?_);cases e:O.blt _ _ with
    |true=>
     exact Ó ⟨rfl,l,(l+r) / 2,rfl,by (simp at *;lia),by lia,by (simp at *;lia),q4,λi a1 a2=>KeyOrd.klt_of_klt_of_kle e (b2 _ _ a1 a2)⟩
    |false=>
     exact Ó ⟨rfl,(l+r) / 2+1,r,rfl,by (simp at *;lia),by lia,by (simp at *;lia),λi a1=>ĉ (b2 i _ (by lia) (by lia)) (e),q5⟩
  case end2=>
   rintro c nE ⟨rfl,l,rfl,q2,q4,q5⟩;dsimp only;rw[moveDown'_eq];have e2:lo+k-(lo+l)=k-l:=by lia
   refine Î (ŕ (Ó ⟨rfl,?_,?_⟩))
   ·exact b1.bub hk (by simp[*])
   ·have hz:lo+k<(Ï nE).size:=by rw[b1.size];exact hk
    intro i j Bg hj;rw[e2,Jd hz (by simp),Jd hz (by simp),show k-(k-l)=l by lia]
    repeat' split
    all_goals first
     | (lia)
     |exact ň _
     |exact q4 _ (by lia)
     |exact ġ (q5 _ (by lia) (by lia))
     |exact b2 _ _ (by lia) (by lia)
end
end Hc.Ts
namespace Hc.Ts
noncomputable def B4 (lo n:Nat):StateT È Sem (ForInStep (Option Unit×Nat)):=do
 modify λst=>setPending st ((ï st).push (lo,n,0))
 pure (.yield (Z,lo+n))
noncomputable def Yj (pw:Nat)(_:Nat)(_:Option Unit×Unit):StateT È Sem (ForInStep (Option Unit×Unit)):=do
 let st ←get
 let J (_,_,old):=(if (ï st).size>1 then (ï st)[(ï st).size-2]? else Z)|pure (.done (Z,()))
 if old<=pw then pure (.done (Z,())) else do
  let r ←mergeAt' ((ï st).size-2)
  if (!r)=M then pure (.done (J (),())) else pure (.yield (Z,()))
noncomputable def WQ (pw:Nat)(st:È):È:=setPending st ((ï st).modify ((ï st).size-1) λx=>match x with|(p,n,_)=>(p,n,pw))
def Ua (size lo n pw:Nat):StateT È Sem (ForInStep (Option Unit×Nat)):=do
 let c ←forIn [0:size] ((Z,()):Option Unit×Unit) (Yj pw)
 match c.1 with
 |some r=>pure (.done (J r,lo))
 |none=>do
  modify (WQ pw)
  B4 lo n
def WR (size lo n:Nat):StateT È Sem (ForInStep (Option Unit×Nat)):=do
 let st ←get
 let J (p1,n1,_):=(ï st).back? | B4 lo n
 Ua size lo n (power' size (2*p1+n1) (2*p1+n1+n1+n) size)
def WU (size qe:Nat)(_:Nat)(c:Option Unit×Nat):StateT È Sem (ForInStep (Option Unit×Nat)):=
 if c.2≥size then pure (.done (Z,c.2)) else do
  let J n ←countRun' c.2 (size-c.2)|pure (.done (J (),c.2))
  if n<qe then do
   liftM (rule "list.sort.binary-insertion")
   let r ←binarySort' c.2 (min (size-c.2) qe) n
   if (!r)=M then pure (.done (J (),c.2)) else WR size c.2 (min (size-c.2) qe)
  else WR size c.2 n
noncomputable def WV (p:Array (Nat×Nat×Nat)):Nat:=
 if Option.any (λx=>decide (x<(p[p.size-2+1]?).elim 0 λx=>x.2.1)) (if p.size-2>0 then Option.map (λx=>x.2.1) p[p.size-2-1]? else Z)=M then p.size-2-1 else p.size-2
def Yk (_:Nat)(_:Option Unit×Unit):StateT È Sem (ForInStep (Option Unit×Unit)):=do
 let st ←get
 if (ï st).size<=1 then pure (.done (Z,())) else do
  let r ←mergeAt' (WV (ï st))
  if (!r)=M then pure (.done (J (),())) else pure (.yield (Z,()))
theorem xV:sortRuns'=(do
  let st ←get
  let c ←forIn [0:(Ï st).size] ((Z,0):Option Unit×Nat) (WU (Ï st).size (minRun' (Ï st).size (Ï st).size 0))
  match c.1 with
  |some r=>pure r
  |none=>do
   let d ←forIn [0:(Ï st).size] ((Z,()):Option Unit×Unit) Yk
   match d.1 with
   |some r=>pure r
   |none=>pure ()):=by kernel_rfl
section
variable {A:Ñ}{O:ľ}{key:Á->O.α}{knd:ĩ}{D:Á->Prop}
def vH (key:Á->O.α):Nat->List (List Á)->List (Nat×Nat×Nat)->Prop
 |_,[],[]=>True
 |p,g::gs,e::es=>e.1=p/\e.2.1=g.length/\0<g.length/\iO key g/\vH key (p+g.length) gs es
 |_,_,_=>False
theorem vH.len:∀{p:Nat} {gs:List (List Á)} {es:List (Nat×Nat×Nat)},vH key p gs es->gs.length=es.length/\gs.length<=gs.flatten.length
 |_,[],[],_=>⟨rfl,Ð _⟩
 |p,g::gs,e::es,h=>by
  obtain⟨h1,h2⟩:=vH.len h.2.2.2.2;have:=h.2.2.1;rw[ō,Þ,Ò,Ò];lia
theorem vH.app:∀{p:Nat} {gs:List (List Á)} {es:List (Nat×Nat×Nat)} {gs2:List (List Á)} {es2:List (Nat×Nat×Nat)},vH key p gs es->vH key (p+gs.flatten.length) gs2 es2->vH key p (gs++gs2) (es++es2)
 |_,[],[],_,_,_,h2=>h2
 |p,g::gs,e::es,gs2,es2,h,h2=>by
  refine⟨h.1,h.2.1,h.2.2.1,h.2.2.2.1,vH.app h.2.2.2.2 ?_⟩;rw[ō,Þ,<-ϋ] at h2;exact h2
theorem vH.split:∀{i p:Nat} {gs:List (List Á)} {es:List (Nat×Nat×Nat)},vH key p gs es->i+1<es.length->∃g1 x y g2 e1 pw pw2 e2,gs=g1++x::y::g2/\es=e1++(p+g1.flatten.length,x.length,pw)::(p+g1.flatten.length+x.length,y.length,pw2)::e2/\e1.length=i/\vH key p g1 e1/\0<x.length/\iO key x/\0<y.length/\iO key y/\vH key (p+g1.flatten.length+x.length+y.length) g2 e2
 |0,p,x::y::g2,(a,b,pw)::(c,d,pw2)::e2,h,_=>by
  obtain⟨h1,h2,h3,h4,k1,k2,k3,k4,h5⟩:=h;subst h1;subst h2;subst k1;subst k2;exact⟨[],x,y,g2,[],pw,pw2,e2,rfl,rfl,rfl,trivial,h3,h4,k3,k4,h5⟩
 |0,p,[x],[e],h,hl=>absurd hl (by simp)
 |0,p,[],[],h,hl=>absurd hl (by simp)
 |0,p,[x],_::_::_,h,hl=>h.2.2.2.2.elim
 |0,p,_::_::_,[e],h,hl=>h.2.2.2.2.elim
 |i+1,p,[],[],h,hl=>absurd hl (by simp)
 |i+1,p,g::gs,e::es,h,hl=>by
  obtain⟨g1,x,y,g2,e1,pw,pw2,e2,q1,q2,q3,q4,q5⟩:=vH.split h.2.2.2.2 (by simpa using hl);refine⟨g::g1,x,y,g2,e::e1,pw,pw2,e2,by rw[q1];rfl,?_,by rw[Ò,q3],⟨h.1,h.2.1,h.2.2.1,h.2.2.2.1,q4⟩,?_⟩
  ·rw[q2,ō,Þ,<-ϋ];rfl
  ·rw[ō,Þ,<-ϋ];exact q5
theorem vH.power {f:Nat×Nat×Nat->Nat×Nat×Nat}(hf:∀e,(f e).1=e.1/\(f e).2.1=e.2.1):∀{i p:Nat} {gs:List (List Á)} {es:List (Nat×Nat×Nat)},vH key p gs es->vH key p gs (es.modify i f)
 |_,_,[],[],_=>by rw[List.modify_nil];exact trivial
 |0,p,g::gs,e::es,h=>by
  exact⟨(hf e).1.trans h.1,(hf e).2.trans h.2.1,h.2.2⟩
 |i+1,p,g::gs,e::es,h=>by
  exact⟨h.1,h.2.1,h.2.2.1,h.2.2.2.1,vH.power hf h.2.2.2.2⟩
structure SI (key:Á->O.α)(knd:ĩ)(a0:Array Á)(lo:Nat)(rest:List Á)(st:È):Prop where
 failed:Ĵ st=Z
 kind:â st=knd
 perm:(Ï st).toList.Perm a0.toList
 segs:∃gs:List (List Á),(Ï st).toList=gs.flatten++rest/\gs.flatten.length=lo/\vH key 0 gs (ï st).toList
variable {a0:Array Á}{lo:Nat}{rest:List Á}
theorem SI.size {st:È}(h:SI key knd a0 lo rest st):lo+rest.length=a0.size:=by
 obtain⟨gs,e,l,_⟩:=h.segs;have:=h.perm.length_eq;rw[e,Þ,l] at this;exact this
theorem SI.few {st:È}(h:SI key knd a0 lo rest st):(ï st).size<=lo:=by
 obtain⟨gs,e,l,p⟩:=h.segs;have h1:=p.len;grind
theorem SI.merge (C:mw Mq A E s O key knd D)(hD:∀p∈a0.toList,D p){st:È}(h:SI key knd a0 lo rest st)(hi:i+1<(ï st).size){Q:Bool->È->Prop}(q:∀aV,SI key knd a0 lo rest aV->(ï aV).size+1=(ï st).size->Q M aV):wpS Mq A E s (mergeAt' i) Q st:=by
 obtain⟨gs,e,l,p⟩:=h.segs;obtain⟨g1,x,y,g2,e1,pw,pw2,e2,q1,q2,q3,q4,x0,sx,y0,sy,q5⟩:=p.split (by exact hi);rw[Ġ] at q2 q5;subst q3;have ea:(Ï st).toList=g1.flatten++(x++(y++(g2.flatten++rest))):=by
  grind
 have mem:=λp hp=>hD p (h.perm.mem_iff.mp hp);refine B1 C (pw:=pw) (pw2:=pw2) h.failed h.kind ea ?_ ?_ (λp hp=>mem p (by grind)) (λp hp=>mem p (by grind)) sx sy x0 y0 λz g hz sz=>q _ ?_ ?_
 ·rw[<-Ĕ,q2,Š (Ð _),afn];rfl
 ·rw[<-Ĕ,q2,Š (İ _ 1),Ψ];rfl
 all_goals
  have ep:(D4 (ï st) e1.length g1.flatten.length (x.length+y.length) pw).toList=e1++(g1.flatten.length,x.length+y.length,pw)::e2:=by
   unfold D4;rw[Array.toList_eraseIdxIfInBounds,afc,q2,List.set_append_right _ _ (Ð _),afn,List.eraseIdx_append_of_length_le (İ _ 1),Ψ];rfl
 ·refine⟨h.failed,h.kind,?_,g1++z::g2,?_,?_,?_⟩
  ·refine List.Perm.trans ?_ h.perm;rw[ea];refine Ŗ _ ?_;rw[<-õ x];exact ŭ _ hz
  ·simp
  ·rw[<-l,q1,Ϛ,Ϛ,ō,ō,ō];have:=hz.length_eq;rw[Þ] at this;simp only[Þ];lia
  ·have hl:z.length=x.length+y.length:=by rw[hz.length_eq,Þ]
   rw[ep];refine q4.app ⟨by rw[Ġ],hl.symm,by lia,sz,?_⟩;rw[Ġ,hl,<-ϋ];exact q5
 ·rw[<-í,ep,<-í,q2];simp only[Þ,Ò];lia
theorem QB (C:mw Mq A E s O key knd D)(hD:∀p∈a0.toList,D p){st:È}(h:SI key knd a0 lo rest st){pw:Nat}{c:Option Unit×Unit}{Q:ForInStep (Option Unit×Unit)->È->Prop}(q1:∀aV,SI key knd a0 lo rest aV->Q (.done (Z,())) aV)(q2:∀aV,SI key knd a0 lo rest aV->Q (.yield (Z,())) aV):wpS Mq A E s (Yj pw i c) Q st:=by
 refine Î (Ľ ?_);by_cases c1:(ï st).size>1
 ·rw[hV c1,getElem?_pos _ _ (by omega)];obtain⟨a,b,old⟩:=(ï st)[(ï st).size-2];dsimp only;split
  ·exact Ó (q1 st h)
  ·refine Î (h.merge C hD (by lia) λaV h' _=>?_);exact Ó (q2 aV h')
 ·rw[hU c1];exact Ó (q1 st h)
theorem wN {st:È}(h:SI key knd a0 lo rest st){n:Nat}{Q:ForInStep (Option Unit×Nat)->È->Prop}(n1:1<=n)(n2:n<=rest.length)(sr:iO key (rest.take n))
  (q:∀aV,SI key knd a0 (lo+n) (rest.drop n) aV->Q (.yield (Z,lo+n)) aV):wpS Mq A E s (B4 lo n) Q st:=by
 refine Î (ŕ (Ó (q _ ?_)));obtain⟨gs,e,l,p⟩:=h.segs;have hl:(rest.take n).length=n:=by rw[ÿ];lia
 refine⟨h.failed,h.kind,h.perm,gs++[rest.take n],?_,?_,?_⟩
 ·rw[e,Ϛ,õ];simp
 ·rw[Ϛ,Þ,l,ō,List.flatten_nil,ā,hl]
 ·rw[ε];exact p.app ⟨by rw[Ġ,l],hl.symm,by lia,sr,trivial⟩
theorem Jf (C:mw Mq A E s O key knd D)(hD:∀p∈a0.toList,D p){st:È}(h:SI key knd a0 lo rest st){size n:Nat}{Q:ForInStep (Option Unit×Nat)->È->Prop}(n1:1<=n)(n2:n<=rest.length)(sr:iO key (rest.take n))
  (q:∀aV,SI key knd a0 (lo+n) (rest.drop n) aV->Q (.yield (Z,lo+n)) aV):wpS Mq A E s (WR size lo n) Q st:=by
 refine Î (Ľ ?_);cases e:(ï st).back? with
 |none=>exact wN h n1 n2 sr q
 |some v=>
  refine Î (Ď (ĕ (I:=λx c aV=>c=(Z,())/\SI key knd a0 lo rest aV) ?go (λ_ _ z=>z) ⟨rfl,h⟩) ?fin)
  case go=>
   rintro x c aV _ _ ⟨rfl,h'⟩;exact QB C hD h' (λnE z=>⟨rfl,z⟩) λnE z=>⟨rfl,z⟩
  case fin=>
   rintro c aV ⟨rfl,h'⟩;refine Î (ŕ (wN ?_ n1 n2 sr q));obtain⟨gs,e,l,p⟩:=h'.segs;refine⟨h'.failed,h'.kind,h'.perm,gs,e,l,?_⟩;show vH key 0 gs ((ï aV).modify _ _).toList;rw[Array.toList_modify];refine vH.power (λe=>?_) p;exact⟨rfl,rfl⟩
theorem L_ {l:Array Á}{P R:List Á}{n:Nat}(e:l.toList=P++R)(h:Gk key P.length l n):iO key (R.take n):=by
 refine ϝ.mpr λi j hi hj Bg=>?_;rw[ÿ] at hi hj;have at_:∀k,(hk:k<R.length)->kx key l (P.length+k)=key R[k]:=λk hk=>by
  unfold kx;rw[<-Ĕ,e,Š (İ _ _),Ψ,Ø hk];rfl
 have:=h i j (by lia) (by lia);grind
theorem SI.run {cP st:È}(h:SI key knd a0 lo rest cP)(b:SB lo (Ï cP) cP st):∃r,SI key knd a0 lo r st/\r.length=rest.length/\∀n,Gk key lo (Ï st) n->iO key (r.take n):=by
 obtain⟨gs,e,l,p⟩:=h.segs;have hp:=afd.mp b.perm;have ht:(Ï st).toList.take lo=gs.flatten:=by
  apply afD;intro k;rw[ϣ];split
  ·rename_i c;rw[Ĕ,b.same k c,<-Ĕ,e,Ŵ (by simp[*])]
  ·rw[π (by simp_all)]
 have e2:(Ï st).toList=gs.flatten++(Ï st).toList.drop lo:=by
  conv=>lhs;rw[<-Ł lo (Ï st).toList,ht]
 refine⟨(Ï st).toList.drop lo,⟨?_,?_,hp.trans h.perm,gs,e2,l,?_⟩,?_,λn hn=>?_⟩
 ·rw[b.rest];exact h.failed
 ·rw[b.rest];exact h.kind
 ·rw[b.rest];exact p
 ·have:=hp.length_eq;grind
 ·subst l;exact L_ e2 hn
theorem QC (C:mw Mq A E s O key knd D)(hD:∀p∈a0.toList,D p){st:È}{qe:Nat}{c:Option Unit×Nat}(h:SI key knd a0 c.2 rest st){Q:ForInStep (Option Unit×Nat)->È->Prop}(q1:SI key knd a0 a0.size [] st->c.2=a0.size->Q (.done (Z,a0.size)) st)(q2:∀n r aV,1<=n->SI key knd a0 (c.2+n) r aV->Q (.yield (Z,c.2+n)) aV):wpS Mq A E s (WU a0.size qe i c) Q st:=by
 obtain⟨c1,lo⟩:=c;have hs:=h.size;unfold WU;dsimp only;by_cases c2:lo≥a0.size
 ·rw[hV c2];have e1:lo=a0.size:=by lia
  have e2:rest=[]:=ş (by simp_all);subst e1;subst e2;exact Ó (q1 h rfl)
 ·rw[hU c2];have YO:=λp hp=>hD p (h.perm.mem_iff.mp hp);have hz:=by have:=h.perm.length_eq;rwa [í,í] at this
  have b0:SB lo _ st st:=⟨Array.Perm.refl _,λ_ _=>rfl,rfl⟩;refine Î (zT C h.kind YO (by lia) (by lia) b0 λn aV b1 n1 n2 ha=>?_);dsimp only;by_cases c3:n<qe
  ·rw[hV c3];refine Î (wpS_lift (ĸ ⟨rfl,?_⟩));refine Î (B3 C h.kind YO (by grind) (by grind) b1 ha λnE b2 SO=>?_);obtain⟨r,h',hl,hr⟩:=h.run b2;exact Jf C hD h' (by grind) (by grind) (hr _ SO) λK3 h3=>q2 _ _ K3 (by lia) h3
  ·rw[hU c3];obtain⟨r,h',hl,hr⟩:=h.run b1;exact Jf C hD h' n1 (by grind) (hr _ ha) λK3 h3=>q2 _ _ K3 n1 h3
theorem QD {p:Array (Nat×Nat×Nat)}(h:¬p.size<=1):WV p+1<p.size:=by
 unfold WV;generalize (Option.any _ _)=z;cases z with
 |true=>rw[hV rfl];omega
 |false=>rw[hU ü];omega
theorem zU (C:mw Mq A E s O key knd D)(hD:∀p∈a0.toList,D p){st:È}(hk:â st=knd)(hf:Ĵ st=Z)(ha:Ï st=a0)(hp:ï st=#[]){Q:Unit->È->Prop}
  (q:∀aV,Ĵ aV=Z->(Ï aV).toList.Perm a0.toList->iO key (Ï aV).toList->Q () aV):wpS Mq A E s sortRuns' Q st:=by
 rw[xV];refine Î (Ľ ?_);rw[ha];have h0:SI key knd a0 0 a0.toList st:=⟨hf,hk,by rw[ha],[],by rw[ha];rfl,rfl,by rw[hp];exact trivial⟩;refine Î (Ď (ĕ (I:=λx c aV=>c.1=Z/\x<=c.2/\∃r,SI key knd a0 c.2 r aV) (Q:=λc aV=>c.1=Z/\SI key knd a0 a0.size [] aV) ?go ?out ⟨rfl,Ð _,_,h0⟩) ?post)
 case out=>
  rintro⟨c1,lo⟩ aV ⟨e,hx,r,h⟩;dsimp only at e hx h;have hs:=h.size;have e1:lo=a0.size:=by (simp at *;lia)
  simp_all
 case go=>
  rintro x c aV _ hx ⟨e,hx2,r,h⟩;refine QC C hD h (λh1 h2=>⟨rfl,h1⟩) λn r nE n1 h2=>⟨rfl,?_,r,h2⟩;lia
 case post=>
  rintro⟨c1,lo⟩ aV ⟨e,h⟩;dsimp only at e |-;subst e;dsimp only;refine Î (Ď (ĕ (I:=λx c aV=>c=(Z,())/\SI key knd a0 a0.size [] aV/\(ï aV).size+x<=a0.size) (Q:=λc aV=>c=(Z,())/\SI key knd a0 a0.size [] aV/\(ï aV).size<=1) ?_ ?_ ⟨rfl,h,by have:=h.few;lia⟩) ?_)
  ·rintro x c nE _ hx ⟨rfl,h2,h3⟩;unfold Yk;refine Î (Ľ ?_);by_cases c:(ï nE).size<=1
   ·rw[hV c];exact Ó ⟨rfl,h2,c⟩
   ·rw[hU c];refine Î (h2.merge C hD (QD c) λK3 h4 h5=>?_);rw[hU (by decide)];exact Ó ⟨rfl,h4,by lia⟩
  ·rintro c nE ⟨rfl,h2,h3⟩;exact⟨rfl,h2,by (simp at *;lia)⟩
  ·rintro c nE ⟨rfl,h2,h3⟩;refine Ó (q nE h2.failed h2.perm ?_);obtain⟨gs,e,l,p⟩:=h2.segs;rw[e,ā]
   match gs,(ï nE).toList,p,(show (ï nE).toList.length<=1 by rw[í];exact h3) with
   | [],_,_,_=>exact List.Pairwise.nil
   | [g],[e1],p,_=>
    rw[ō,List.flatten_nil,ā];exact p.2.2.2.1
   |g::g2::gs,[e1],p,_=>exact p.2.2.2.2.elim
   |g::gs,e1::e2::es,p,hl=>exact absurd hl (by simp)
end
end Hc.Ts
namespace Hc.Ts
section
variable {A:Ñ}{O:ľ}{key:Á->O.α}{knd:ĩ}{D:Á->Prop}
theorem jv {vs:List F}{l:List Á}(h:l.Perm (vs.zip vs)):(l.map (·.2)).Perm vs/\∀p∈l,p=(p.2,p.2):=by
 have e:(vs.zip vs).map (·.2)=vs:=by
  grind[afo,å,List.map_snd_zip]
 refine⟨by have:=h.map (·.2);rwa [e] at this,λp hp=>?_⟩;have hp:=h.mem_iff.mp hp;clear h e
 induction vs with
 |nil=>cases hp
 |cons v r ih=>
  grind[afo,à]
theorem Jg {vs:List F}{n:Nat}{P:Fin->Ã->Prop}(ho:s.heap.get? a=J (seqObj "list" vs.toArray n))(hz:vs.length<=1000000)(hk:2<=vs.length->∀(h6:Í) (Q:ĩ->Ã->Prop),(∀b o,b≠a->s.heap.get? b=J o->h6.get? b=J o)->Q knd {s with heap:=h6}->Å (Ä prog w) A (keyKind' vs.toArray) Q E {s with heap:=h6})(hC:2<=vs.length->∀h6:Í,(∀b o,b≠a->s.heap.get? b=J o->h6.get? b=J o)->mw (Ä prog w) A E {s with heap:=h6} O key knd D)(hD:∀v∈vs,D (v,v))(h:∀out:List F,out.Perm vs->out.Pairwise (λx y=>O.kle (key (x,x)) (key (y,y)))->P (.done (.ret .none)) {s with heap:=sortedHeap s.heap a vs out.toArray}) :
  Å (Ä prog w) A (Builtin.«list.sort» ⟨[.ref a],[]⟩) P E s:=by
 have R_:vs.length<=Â:=by rw[ī];lia
 have la:a<s.heap.objs.size:=Û ho;rw[list_sort_plain];refine À (listItems_at ho rfl (À (listUpdate_at ho rfl ?_ (hsz:=by rw[ë];exact R_))));obtain⟨e1,o1⟩:∃e1,(s.heap.update a (Ů λ_=>#[])).get? a=J (seqObj "list" #[] e1):=⟨_,get?_update_seq ho (λ_=>#[])⟩;refine À (seqEpoch_at o1 rfl (À (wpAny_newTuple (À (wpAny_newList (Ģ ?_))) (by simpa using R_))));have kp:∀b o,b≠a->s.heap.get? b=J o->(((s.heap.update a (Ů λ_=>#[])).push (seqObj "tuple" vs.toArray 0)).push (seqObj "list" #[] 0)).get? b=J o:=λb o hb e=>
  Ö _ (Ö _ ((Heap.get?_update_ne _ _ _ _ hb).trans e))
 have o6:(((s.heap.update a (Ů λ_=>#[])).push (seqObj "tuple" vs.toArray 0)).push (seqObj "list" #[] 0)).get? a=J (seqObj "list" #[] e1):=Ö _ (Ö _ o1);change Å (Ä prog w) A _ P E {s with heap:=((s.heap.update a (Ů λ_=>#[])).push (seqObj "tuple" vs.toArray 0)).push (seqObj "list" #[] 0)};dsimp only;have fin:∀aV:È,Ĵ aV=Z->(Ï aV).toList.Perm (pairsOf vs).toList->iO key (Ï aV).toList->Å (Ä prog w) A (do
   let touched:=(←seqEpoch a) != e1
   Builtin.List.listUpdate (.ref a) λ_=>(Ï aV).map (·.2)
   if let J e:=Ĵ aV then rule "list.sort.comparison-raised";throw e
   if touched then rule "list.sort.modified";raiseError "ValueError" "list modified during sort"
   ret .none) P E {s with heap:=((s.heap.update a (Ů λ_=>#[])).push (seqObj "tuple" vs.toArray 0)).push (seqObj "list" #[] 0)}:=by
  intro aV f1 f2 f3;rw[pairsOf_toList] at f2;obtain⟨m1,m2⟩:=jv f2;refine À (seqEpoch_at o6 rfl (À (listUpdate_at o6 rfl ?_ (hsz2:=by
   rw[Array.size_map,<-í,f2.length_eq,List.length_zip,Nat.min_self];lia))))
  rw[f1];simp only[bne_self_eq_false,đ,if_false];refine Ë ?_;have e:(Ï aV).map (·.2)=((Ï aV).toList.map (·.2)).toArray:=by apply Array.ext';simp
  rw[e];refine h _ m1 (Ţ.mpr (ϻ (λ{x y} hx hy r=>?_) f3));rw[<-m2 x hx,<-m2 y hy];exact r
 by_cases h2:vs.length<2
 ·rw[hV (by rw[ë];exact h2),hV (by rw[ë];exact h2)];refine À (Ë ?_);rw[StateT.run_pure];refine À (Ë ?_);refine fin (SortSt.mk' general' (vs.toArray.zip vs.toArray) #[] 7 Z) rfl (Ŀ _) ?_;change iO key (pairsOf vs).toList;rw[pairsOf_toList]
  match vs,h2 with
  | [],_=>exact List.Pairwise.nil
  | [v],_=>exact aeh _ _
  |_::_::_,h2=>exact absurd h2 (by simp)
 ·rw[hU (by rw[ë];exact h2),hU (by rw[ë];exact h2)];refine À (hk (by lia) _ _ kp ?_);refine À (ù (zU (hC (by lia) _ kp) (a0:=pairsOf vs) (λp hp=>?_) (st:=SortSt.mk' knd (vs.toArray.zip vs.toArray) #[] 7 Z) rfl rfl rfl rfl
   (Q:=λ_ aV=>Ĵ aV=Z/\(Ï aV).toList.Perm (pairsOf vs).toList/\iO key (Ï aV).toList) λaV a1 a2 a3=>⟨a1,a2,a3⟩) ?_ λ_ _ e=>e)
  ·rw[pairsOf_toList] at hp;obtain⟨m1,m2⟩:=jv (Ŀ (vs.zip vs));rw[m2 p hp];exact hD _ (m1.mem_iff.mp (ο hp))
  ·rintro⟨⟨⟩,aV⟩ s' ⟨rfl,f1,f2,f3⟩;exact fin aV f1 f2 f3
end
end Hc.Ts
namespace Hc.Ts
open PySem.W
noncomputable def e_:List Int->List Int->Bool
 | [],[]=>Y
 | [],_::_=>M
 |_::_,[]=>Y
 |x::xs,y::ys=>if x=y then e_ xs ys else decide (x<y)
theorem kP:∀a,e_ a a=Y
 | []=>rfl
 |x::xs=>by unfold e_;rw[hV rfl];exact kP xs
theorem uu:∀a b c,e_ a b=M->e_ b c=M->e_ a c=M
 | [],[],_,h,_=>by cases h
 | [],_::_,[],_,h=>by cases h
 | [],_::_,_::_,_,_=>rfl
 |_::_,[],_,h,_=>by cases h
 |_::_,_::_,[],_,h=>by cases h
 |x::xs,y::ys,z::zs,h1,h2=>by
  unfold e_ at h1 h2 |-;by_cases e1:x=y
  ·subst e1;rw[hV rfl] at h1;by_cases e2:x=z
   ·subst e2;rw[hV rfl] at h2 |-;exact uu xs ys zs h1 h2
   ·rw[hU e2] at h2 |-;exact h2
  lia
theorem zV:∀a b c,e_ a c=M->e_ a b=M\/e_ b c=M
 | [],[],_::_,_=>.inr rfl
 | [],_::_,_::_,_=>.inl rfl
 | [],_,[],h=>by cases h
 |_::_,_,[],h=>by cases h
 |_::_,[],_::_,_=>.inr rfl
 |x::xs,y::ys,z::zs,h=>by
  unfold e_ at h |-;by_cases e:x=z
  ·subst e;rw[hV rfl] at h;by_cases e2:x=y
   ·subst e2;rw[hV rfl,hV rfl];exact zV xs ys zs h
   lia
  lia
theorem jO:∀a b,e_ a b=Y->e_ b a=Y->a=b
 | [],[],_,_=>rfl
 | [],_::_,h,_=>by cases h
 |_::_,[],_,h=>by cases h
 |x::xs,y::ys,h1,h2=>by
  unfold e_ at h1 h2;by_cases e:x=y
  ·subst e;rw[hV rfl] at h1 h2;rw[jO xs ys h1 h2]
  lia
def B5:ľ:=⟨List Int,e_,kP,uu,zV,jO⟩
noncomputable def xW (h:Í)(v:F):List Int:=match v with
 | .ref a=>match h.get? a with
  |some o=>match o.data with
   | .seq its _=>its.toList.map numOf
   |_=>[]
  |none=>[]
 |_=>[]
def zW (h:Í)(v:F):Prop:=∃a its ns,v=.ref a/\h.IsTuple a its/\ý its.toList ns/\ns≠[]
theorem zX:∀{vs:List F} {ns:List Int},ý vs ns->vs.map numOf=ns
 |_,_,.nil=>rfl
 |_,_,.cons n t r=>by rw[å,zX r];rfl
theorem oE {its:Array F}(t:h.IsTuple a its)(i:ý its.toList ns):xW h (.ref a)=ns:=by
 obtain⟨o,e,_,n,d⟩:=t;unfold xW;dsimp only;rw[e];dsimp only;rw[d];exact zX i
section
variable {A:Ñ}{b fin:Bool}{Q:Bool->Ã->Prop}
theorem zY:∀{xs ys:List F} {ns ms:List Int} {i:Nat},ý xs ns->ý ys ms->fin=decide (ns.length<ms.length)->Q (e_ ns ms) s->KatLex prog w A b fin Q (xs.zip ys) i s
 |_,_,_,_,i,.nil,.nil,hf,h=>by subst hf;exact kat_nil h
 |_,_,_,_,i,.nil,.cons m t r,hf,h=>by subst hf;exact kat_nil (by exact h)
 |_,_,_,_,i,.cons n t r,.nil,hf,h=>by subst hf;exact kat_nil (by exact h)
 |_,_,_,_,i,.cons n t r,.cons m u q,hf,h=>by
  refine kat_cons (wpAny_eqBool_int ?_);unfold e_ at h;by_cases e:n=m
  ·subst e;rw[hV rfl] at h;rw[beq_self_eq_true];refine kat_yes (zY r q ?_ h);rw[hf];simp
  ·rw[hU e] at h;rw[beq_eq_false_iff_ne.mpr e];refine kat_no ?_;cases hb:(b&&i==0) with
   |true=>exact oneLt_int h
   |false=>exact kat_one _ _ (lt_int h)
theorem Ma {hp:Í}(keep:∀v,zW hp v->zW s.heap v/\xW s.heap v=xW hp v):mw (Ä prog w) A E s B5 (λx=>xW hp x.1) (tuples' M) (λx=>zW hp x.1) where
 lt:=λx y st Q dx dy kd q=>by
  obtain⟨k1,k2⟩:=keep _ dx;obtain⟨k3,k4⟩:=keep _ dy;obtain⟨a,xs,ns,e1,t1,i1,_⟩:=k1;obtain⟨c,ys,ms,e2,t2,i2,_⟩:=k3;rw[<-k2,<-k4,e1,e2,oE t1 i1,oE t2 i2] at q;rw[lt'_eq];refine Î (Ľ ?_);rw[kd,e1,e2];obtain⟨o1,g1,_,n1,d1⟩:=t1;obtain⟨o2,g2,_,n2,d2⟩:=t2;refine Î (wpS_lift (Ι (kat_lt g1 d1 g2 d2 (zY i1 i2 ?_ ⟨rfl,?_⟩))))
  ·rw[<-i1.length,<-i2.length,í,í]
  ·exact Ó q
end
end Hc.Ts
namespace Hc.Dw
open PySem.W PySem.Calls
section
variable {A:Ñ}{d r I:G}{ds:Array Ş}
theorem zZ {T:String}{n:Nat}{P:Nat->F->Prop}{OK:Í->Prop}(K:KdlSrc prog w T r d n P OK)(hh:A.handled=Z)(hok:OK s.heap)(hn:n<=Â){Q:List F->Ã->Prop}
  (q:∀h' tk bH,(∀b o,s.heap.get? b=J o->h'.get? b=J o)->ItemsOf P bH n->Q bH.toList {s with heap:=h',toks:=tk}):Å (Ä prog w) A (collect (.ref r)) Q E s:=by
 have lt:=K.there _ hok;refine À (ϗ (ś PySem.F.entry_proto_collect ?_));refine À (ř (Ë ⟨plainId_quiet PySem.F.plain_list_iadd _,ś PySem.F.entry_list_iadd ?_⟩));rw[Around.under_plainId PySem.F.plain_list_iadd _];have hS:(s.heap.push _).get? _=J {cls:=.type "list",data:=.seq #[] 0}:=æ _ rfl;refine kdl_extend (R:=λx s'=>match x with
  | .ok (.ret v)=>Å _ A (match v with
   | .ref a=>do match (←load a).data with
    | .seq xs _=>pure xs.toList
    |_=>Ų _
   |_=>Ų _) Q E s'
  | .ok _=>False
  | .error e=>E e s') K hh (K.keep _ _ hok λb _ o e=>Ö _ e) _ (Ŕ lt.1) (Ŕ lt.2) _ 0 hS (λh' tk bH c' k' K1 rN=>?_) hn
 refine À (wpAny_load K1 ?_);exact Ë (q h' tk bH (λb o e=>k' b o (è (Û e)) (Ö _ e)) rN)
end
end Hc.Dw
namespace Hc.Sy
open PySem.SetTable Hc.Sx
def Sz:Slot "set_iterator" "__next__" "set_iterator.__next__":=by
 refine .of (owner:="set_iterator") (n:="__next__") ?_ (by rfl) (by rfl) (by rfl) ?_ ?_
 ·kernel_rfl
 ·first|exact .inl (by rfl)|exact .inr (by decide+kernel)
 ·kernel_rfl
def Yl:entryFor table "set_iterator.__next__"=J Builtin.«set_iterator.__next__»:=entryFor_of_tree (by kernel_rfl)
def Ym (a:F):argsOk "set_iterator.__next__" ⟨[a],[]⟩:=by kernel_rfl
def Yn:Slot "set_iterator" "__iter__" "set_iterator.__iter__":=by
 refine .of (owner:="set_iterator") (n:="__iter__") ?_ (by rfl) (by rfl) (by rfl) ?_ ?_
 ·kernel_rfl
 ·first|exact .inl (by rfl)|exact .inr (by decide+kernel)
 ·kernel_rfl
def Y5:entryFor table "set_iterator.__iter__"=J Builtin.«dict_keyiterator.__iter__»:=entryFor_alias (id':="dict_keyiterator.__iter__") (by kernel_rfl) rfl (by decide+kernel) (by kernel_rfl)
def Y6 (a:F):argsOk "set_iterator.__iter__" ⟨[a],[]⟩:=by kernel_rfl
def Y7:entryFor table "set.__iter__"=J Builtin.«frozenset.__iter__»:=entryFor_alias (id':="frozenset.__iter__") (by kernel_rfl) rfl (by decide+kernel) (by kernel_rfl)
def Y8 (a:F):argsOk "set.__iter__" ⟨[a],[]⟩:=by kernel_rfl
def l9 (w:ß)(h:Í)(a:G)(es:Array (Int×F))(ep:Nat)(t:Į):Prop:=
 ∃o,h.get? a=J o/\o.ExactSet/\o.data=.set es ep t/\t.fits es.size=M/\t.plain=M/\(Bk w=M\/t.led=M)/\TC t.place/\t.place.size=es.size
theorem l9.at {es:Array (Int×F)}(x:l9 w h a es ep t)(e:∀o,h.get? a=J o->h'.get? a=J o):l9 w h' a es ep t:=by
 obtain⟨o,q,r⟩:=x;exact⟨o,e o q,r⟩
theorem l9.ty {es:Array (Int×F)}(x:l9 w s.heap a es ep t):s.TypeIs (.ref a) "set":=by
 obtain⟨o,e,c,_⟩:=x;exact⟨o,e,c.1⟩
theorem l9.lt {es:Array (Int×F)}(x:l9 w h a es ep t):a<h.objs.size:=by
 obtain⟨o,e,_⟩:=x;exact Û e
def vI (w:ß)(a:G)(ep:Nat)(es:Array (Int×F)):Array (Int×F):=if Bk w=M then μ (w.params.setOrder a ep) es else es
def fj (w:ß)(t:Į):Nat->Nat
 |0=>0
 |i+1=>if Bk w=M then 0 else t.place.getD i 0+1
def QE (w:ß)(a:G)(n ep:Nat)(t:Į)(i:Nat):Array F:=#[.int (fj w t i:Nat) 0,.int i 0,.ref a,.int n 0,.int ep 0]
def B6 (w:ß)(h:Í)(it a:G)(n ep:Nat)(t:Į)(i:Nat):Prop:=∃o,h.get? it=J o/\o.cls=.type "set_iterator"/\o.data=.fields (QE w a n ep t i)
theorem B6.at {n:Nat}(x:B6 w h it a n ep t i)(e:∀o,h.get? it=J o->h'.get? it=J o):B6 w h' it a n ep t i:=by
 obtain⟨o,q,r⟩:=x;exact⟨o,e o q,r⟩
def eL {A:Ñ}{α:Type}{b:Bool}{x y:Sem α}{Q:α->Ã->Prop}(h:b=Y)(q:Å Mq A y Q E s):Å Mq A (if b=M then x else y) Q E s:=by
 rw[h];exact q
section
variable {A:Ñ}{es:Array (Int×F)}
theorem Ub (x:l9 w s.heap a es ep t)(q:Q (.ref s.heap.objs.size) {s with heap:=s.heap.push {cls:=.type "set_iterator",data:=.fields (QE w a es.size ep t 0)}}):Å (Ä prog w) A (pyIter (.ref a)) Q E s:=by
 have ty:=x.ty;obtain⟨o,e1,e2,e3,e4,e5,e6,e7,e8⟩:=x;refine wpAny_pyIter_slot ty PySem.F.slot_set_iter (Ī PySem.F.slot_set_iter ty Y7 ?_ (Y8 _));unfold Builtin.«frozenset.__iter__» Builtin.Frozenset.slot0 slotArgs;simp only[bind_assoc,š];refine À (Ë ?_);refine À (Ë ?_);refine À (À (ae6 e1 e3 e4 (Ë ?_)));refine À (À (ĵ e1 e3 e4 ?_));refine À (À (Ś (Ë (Ë ?_))));have nd:(!(w.params.followText "set-order")&&(!t.plain&&decide (es.size>1)))=Y:=by rw[e5];simp
 refine eL nd ?_;refine À (Ë ?_);refine À (À (ĵ e1 e3 e4 (Ë ?_)));refine À (ř (Ë ⟨_,rfl,"set_iterator",_,⟨_,æ _ rfl,rfl⟩,Sz.lookup,?_⟩));simpa [rawInt,QE,fj] using q
theorem xX {Q:Option (F×Nat)->Ã->Prop}(x:l9 w s.heap a es ep t)(hi:i<es.size){e:Int×F}(he:(vI w a ep es)[i]? = J e)(q:Q (J (e.2,fj w t (i+1))) s) :
  Å (Ä prog w) A (setNext a (fj w t i) i ep) Q E s:=by
 obtain⟨o,e1,e2,e3,e4,e5,e6,e7,e8⟩:=x;refine À (ĵ e1 e3 e4 ?_);refine À (À (Ś (Ë ?_)));unfold vI at he;by_cases b:Bk w=M
 ·rw[hV b] at he;rw[hV (show (Ä prog w).w.params.followText _=M from b),hU (by simp)];refine À (À (ĵ e1 e3 e4 ?_));refine À (À (Ś (Ë ?_)));rw[hV (show (Ä prog w).w.params.followText _=M from b)];refine À (Ś (Ë (Ë ?_)));have ZP:(μ ((Ä prog w).w.params.setOrder a ep) es)[i]? = J e:=he;rw[ZP];have z:fj w t i=0:=by
   cases i with
   |zero=>rfl
   |succ i=>show (if Bk w=M then 0 else _)=0;rw[hV b]
  have z':fj w t (i+1)=0:=by show (if Bk w=M then 0 else _)=0;rw[hV b]
  rw[z'] at q;rw[z];exact q
 ·rw[hU b] at he;rw[hU (show ¬(Ä prog w).w.params.followText _=M from b)];have led:=e6.resolve_left b;have nd:(!t.plain&&decide (es.size>1))=Y:=by rw[e5];rfl
  refine eL nd ?_;refine À (Λ (by show (if (!t.led && !es.isEmpty)=M then _ else _)=_;rw[led];rfl) (Ë ?_));have hb:below t.place (fj w t i)=i:=by
   obtain⟨b1,b2,b3⟩:=og (j:=fj w t i) e7;rcases afB (below t.place (fj w t i)) i with z|z|z
   ·cases i with
    |zero=>lia
    |succ i=>
     have hs:fj w t (i+1)=t.place.getD i 0+1:=by show (if Bk w=M then 0 else _)=_;rw[hU b]
     have g:t.place.getD i 0=t.place[i]'(by lia):=by simp[show i<t.place.size from by lia]
     grind
   ·exact z
   ·have:=b1 i (by simp[*]) z;cases i with
    |zero=>exact absurd this (Nat.not_lt_zero _)
    |succ i=>
     have hs:fj w t (i+1)=t.place.getD i 0+1:=by show (if Bk w=M then 0 else _)=_;rw[hU b]
     have g:t.place.getD i 0=t.place[i]'(by lia):=by simp[show i<t.place.size from by lia]
     have r:=(e7 i (i+1) (by lia) (by simp[*]) (by lia));lia
  simp_all[getElem?_pos,fj,Bk,hU]
theorem Uc {Q:Option F->Ã->Prop}(k:B6 w s.heap it a es.size ep t i)(x:l9 w s.heap a es ep t)(ne:it≠a)(hi:i<es.size){e:Int×F}(he:(vI w a ep es)[i]? = J e)
  (q:∀h',B6 w h' it a es.size ep t (i+1)->œ it s.heap h'->Q (J e.2) {s with heap:=h'}):Å (Ä prog w) A (pyNext (.ref it)) Q E s:=by
 obtain⟨oi,i1,i2,i3⟩:=k;have ty:s.TypeIs (.ref it) _:=⟨oi,i1,i2⟩;have x0:=x;obtain⟨o,e1,e2,e3,e4,e5,e6,e7,e8⟩:=x;refine À (Ι (Ř ty Sz (Ī Sz ty Yl ?_ (Ym _))));refine À (Ë ?_);refine À (wpAny_fieldsOf i1 i3 ?_);refine À (ae6 e1 e3 e4 ?_);rw[hU (by simp)];change Å _ _ (setNext a _ _ _ >>= _) _ _ s;refine À (xX x0 hi he ?_);refine À (ι i1 i3 (by simp[QE]) ?_);have YQ:=χ (Obj.mapFields (·.setIfInBounds 0 (rawInt (fj w t (i+1):Nat)))) i1 (aeI (ζ i3 _));have XM:=ζ i3 (·.setIfInBounds 0 (rawInt (fj w t (i+1):Nat)));refine À (ι YQ XM (by simp[QE]) ?_);refine Ë ⟨_,rfl,Ë (q _ ⟨_,χ _ YQ (aeI (ζ XM _)),(afE ..).trans ((afE ..).trans i2),?_⟩ ((Η ..).trans (Η ..)))⟩;rw[ζ XM];rfl
end
end Hc.Sy
namespace Hc.Sy
open PySem.SetTable Hc.Sx PySem.W
section
variable {A:Ñ}{es:Array (Int×F)}
theorem D5 {α:Type}(next:Nat->Nat):∀(n k:Nat) (left:List α) (out:Array α),left.length=n->(pickOrder.go next n k left out).toList.Perm (out.toList++left)
 |0,k,left,out,h=>by
  simp_all[ş,pickOrder.go,ā]
 |n+1,k,left,out,h=>by
  have hl:next k % left.length<left.length:=Ň _ (by lia)
  unfold pickOrder.go;rw[Ø hl];refine (D5 next n (k+1) _ _ (by rw[List.length_eraseIdx_of_lt hl];simp[*])).trans ?_;rw[ε,õ];refine Ŗ _ ?_;rw[List.eraseIdx_eq_take_drop_succ,List.singleton_append];refine List.perm_middle.symm.trans ?_;simp
def wO {α:Type}(next:Nat->Nat)(xs:Array α):(μ next xs).toList.Perm xs.toList:=by
 have:=D5 next xs.size 0 xs.toList #[] (by simp)
 simpa [μ] using this
theorem z9:(vI w a ep es).toList.Perm es.toList:=by
 unfold vI;split
 ·exact wO _ _
 rfl
def z_:(vI w a ep es).size=es.size:=by
 have:=(z9 (w:=w) (a:=a) (ep:=ep) (es:=es)).length_eq;simpa using this
theorem xY {Q:Option (F×Nat)->Ã->Prop}(x:l9 w s.heap a es ep t)(q:Q Z s):Å (Ä prog w) A (setNext a (fj w t es.size) es.size ep) Q E s:=by
 obtain⟨o,e1,e2,e3,e4,e5,e6,e7,e8⟩:=x;refine À (ĵ e1 e3 e4 ?_);refine À (À (Ś (Ë ?_)));by_cases b:Bk w=M
 ·rw[hV (show (Ä prog w).w.params.followText _=M from b),hU (by simp)];refine À (À (ĵ e1 e3 e4 ?_));refine À (À (Ś (Ë ?_)));rw[hV (show (Ä prog w).w.params.followText _=M from b)];refine À (Ś (Ë (Ë ?_)));have hz:(μ ((Ä prog w).w.params.setOrder a ep) es)[es.size]? = Z:=by
   have:=(wO ((Ä prog w).w.params.setOrder a ep) es).length_eq;rw[aes (by simpa using Nat.le_of_eq this)]
  rw[hz];exact q
 ·rw[hU (show ¬(Ä prog w).w.params.followText _=M from b)];have led:=e6.resolve_left b;have nd:(!t.plain&&decide (es.size>1))=Y:=by rw[e5];rfl
  refine eL nd ?_;refine À (Λ (by show (if (!t.led && !es.isEmpty)=M then _ else _)=_;rw[led];rfl) (Ë ?_));have hb:es.size<=below t.place (fj w t es.size):=by
   obtain⟨b1,b2,b3⟩:=og (j:=fj w t es.size) e7;rcases ņ (below t.place (fj w t es.size)) es.size with z|z
   ·obtain⟨m,hm⟩:∃m,es.size=m+1:=⟨es.size-1,by grind⟩;have hs:fj w t es.size=t.place.getD m 0+1:=by rw[hm];show (if Bk w=M then 0 else _)=_;rw[hU b]
    have g:t.place.getD m 0=t.place[m]'(by simp[*]):=by simp[show m<t.place.size from by simp[*]]
    grind
   ·exact z
  rw[aes hb];exact q
theorem Ud {Q:Option F->Ã->Prop}(hh:A.handled=Z)(k:B6 w s.heap it a es.size ep t es.size)(x:l9 w s.heap a es ep t)
  (q:∀h',Heap.ExtBut it s.heap h'->Q Z {s with heap:=h'}):Å (Ä prog w) A (pyNext (.ref it)) Q E s:=by
 obtain⟨oi,i1,i2,i3⟩:=k;have ty:s.TypeIs (.ref it) _:=⟨oi,i1,i2⟩;have x0:=x;obtain⟨o,e1,e2,e3,e4,e5,e6,e7,e8⟩:=x;refine À (Ι (Ř ty Sz (Ī Sz ty Yl ?_ (Ym _))));refine À (Ë ?_);refine À (wpAny_fieldsOf i1 i3 ?_);refine À (ae6 e1 e3 e4 ?_);rw[hU (by simp)];change Å _ _ (setNext a _ _ _ >>= _) _ _ s;refine À (xY x0 ?_);refine À (ι i1 i3 (by simp[QE]) ?_);refine À ?_;refine À (m:=firstArgMember _ _) (Λ (by rfl) (ř ?_));refine À (wpAny_handled ?_);rw[hh];refine À (Ë (wpAny_throw ?_));refine À (wpAny_isInstance ⟨_,æ _ rfl,rfl⟩ isSubtype_stop ?_);exact Ë (q _ (((Η ..).extBut.push _).push _))
theorem QF (hh:A.handled=Z)(VQ:a≠it):Walks prog w A it [it,a] [it] es.size (λi v=>∃e,(vI w a ep es)[i]? = J e/\v=e.2) (λi h=>B6 w h it a es.size ep t i/\l9 w h a es ep t) where
 sub:=λb hb=>by grind
 frame:=λ_ _ _ st hk=>⟨st.1.at λo e=>hk it (by simp) o e,st.2.at λo e=>hk a (by simp) o e⟩
 item:=λi s Q E hi st hQ=>by
  have Gq:i<(vI w a ep es).size:=by rw[z_];exact hi
  exact Uc st.1 st.2 (Ĝ VQ) hi (getElem?_pos _ i Gq) λh' t' sb=>hQ _ h' s.toks ⟨_,getElem?_pos _ i Gq,rfl⟩ ⟨t',st.2.at λo e=>sb.extBut _ _ VQ e⟩ λb o hb e=>sb.extBut b o (λh=>hb (by simp[h])) e
 done:=λs Q E st hQ=>Ud hh st.1 st.2 λh' eb=>hQ h' s.toks λb o hb e=>eb b o (λh=>hb (by simp[h])) e
 self:=λi s Q E st hQ=>by
  obtain⟨oi,i1,i2,i3⟩:=st.1;have ty:s.TypeIs (.ref it) _:=⟨oi,i1,i2⟩;refine wpAny_pyIter_slot ty Yn (Ī Yn ty Y5 ?_ (Y6 _));exact Ë ⟨_,rfl,"set_iterator",_,ty,Sz.lookup,hQ⟩
theorem Ue {Q:Bool->Ã->Prop}(hT:s.TypeIs (.ref a) "set")(h:Q Y s):Å (Ä prog w) A (Builtin.List.listLengthHint (.ref a)) Q E s:=by
 refine À (wpAny_specialOf hT PySem.F.slot_set_len.lookup ?_);generalize hid:("set.__len__":String)=id0;subst hid;refine À (wpAny_isInstance (b:=M) hT (by kernel_rfl) ?_);refine À (Κ hT ?_);exact Ë h
def WW:KdlSrc prog w "set" a a es.size (λi v=>∃e,(vI w a ep es)[i]? = J e/\v=e.2) (λh=>l9 w h a es ep t) where
 type:=λ_ hm=>hm.ty
 there:=λ_ hm=>⟨hm.lt,hm.lt⟩
 keep:=λ_ _ hm hk=>hm.at λo e=>hk a (.inl rfl) o e
 notList:=by decide
 notTuple:=by decide
 hint:=λ_ _ _ _ hm hq=>Ue hm.ty hq
 iter:=λ_ s hh hm=>⟨_,_,(λ_ _ hq=>Ub hm hq),QF hh (è hm.lt),⟨⟨_,æ _ rfl,rfl,rfl⟩,hm.at λo e=>Ö _ e⟩⟩
end
end Hc.Sy
namespace Hc.Sy
open PySem.SetTable Hc.Sx PySem.W
noncomputable abbrev tI (prog:ø)(w:ß):Ĺ prog w (List Int):=tupleKind (intKind prog w)
section
variable {A:Ñ}
theorem uv {α β:Type}(f:α->β->Sem (ForInStep β))(b:β)(xs:Array α)(h:∀x∈xs.toList,f x b=pure (.yield b)):forIn xs b f=pure b:=by
 rw[<-Array.forIn_toList];generalize xs.toList=l at h
 induction l with
 |nil=>rfl
 |cons x l ih=>
  rw[Ϩ,h x Ú];exact ih λy hy=>h y (Ý _ hy)
def Ou {its:Array F}{n:Nat}{o:Obj}{Q:Option (Array F)->Ã->Prop}(e1:s.heap.get? a=J o)(e3:o.data=.seq its n)(q:Q (J its) s):Å (Ä prog w) A (seqItems? (.ref a)) Q E s:=by
 refine À (wpAny_load e1 ?_);rw[e3];exact Ë q
theorem uw {ks:List Int}{vs:List F}(h:ItemsAre (intKind prog w) ks vs):∀v∈vs,∃n t,v=.int n t:=by
 induction h with
 |nil=>simp
 | @cons k v' ks vs h1 _ ih=>
  intro v hv;rcases à.mp hv with rfl|hv
  ·obtain⟨t,rfl⟩:=Value.isInt_shape h1;exact⟨k,t,rfl⟩
  ·exact ih v hv
theorem Y9:qr (tI prog w) where
 cls:=λ{A E s k a Q} hk q=>by
  obtain⟨o,its,n,e1,e2,e3,e4⟩:=hk;have ty:s.TypeIs (.ref a) "tuple":=⟨o,e1,e2⟩;unfold ofAClassStatement;refine À (Κ ty ?_);refine À (Ë ?_);refine À (Ou e1 e3 ?_);dsimp only;rw[uv]
  ·exact À (Ë (Ë q))
  ·intro x hx;obtain⟨n,t,rfl⟩:=uw e4 x hx;rfl
 byv:=λ{A E s k a Q} hk q=>by
  obtain⟨o,its,n,e1,e2,e3,e4⟩:=hk;have ty:s.TypeIs (.ref a) "tuple":=⟨o,e1,e2⟩;refine À (wpAny_specialOf ty PySem.F.slot_tuple_hash.lookup ?_);refine À (Ou e1 e3 ?_);rw[uv]
  ·exact À (Ë (Ë q))
  ·intro x hx;obtain⟨n,t,rfl⟩:=uw e4 x hx;rfl
 kept:=λ{h h' k a d o es ep t} hk ho hd hs=>by
  obtain⟨o1,its,n,e1,e2,e3,e4⟩:=hk;have ne:a≠d:=λz=>by
   lia
  exact⟨o1,its,n,hs.extBut _ _ ne e1,e2,e3,e4⟩
end
end Hc.Sy
namespace L2
open Hc.Dw Hc.Ts
noncomputable def Ug:V->Int
 | .int i=>i
 |_=>0
def dD (H:Hp)(b:G):List Int:=match H b with
 |some (.tup xs)=>xs.map Ug
 |_=>[]
theorem Aa (ns:List Int):(ns.map V.int).map Ug=ns:=by
 induction ns with
 |nil=>rfl
 |cons n r ih=>rw[å,å,ih];rfl
theorem pU:∀{bs:List G} {its:List F},bf (bs.map V.ref) its->its=bs.map Value.ref
 | [],_,.nil=>rfl
 |b::bs,_,.cons r t=>by rw[å,pU t];cases r;rfl
theorem wQ:∀(bs:List G),bf (bs.map V.ref) (bs.map Value.ref)
 | []=>.nil
 |b::bs=>.cons rfl (wQ bs)
theorem wR {bs:List G}{out:List F}(h:out.Perm (bs.map Value.ref)):∃ko:List G,out=ko.map Value.ref/\ko.Perm bs:=by
 let g:F->G:=λv=>match v with
  | .ref a=>a
  |_=>0
 refine⟨out.map g,?_,?_⟩
 ·rw[ö]
  conv=>lhs;rw[<-List.map_id out]
  apply Ο;intro v hv;obtain⟨b,_,rfl⟩:=á.mp (h.mem_iff.mp hv);rfl
 ·have:=h.map g;rw[ö] at this;have e:bs.map (g∘Value.ref)=bs:=by
   conv=>rhs;rw[<-List.map_id bs]
   rfl
  rw[e] at this;exact this
theorem Mb (I:aP X pins L H s)(h:H b=J (.tup (ns.map V.int)))(n:ns≠[]):zW s.heap (.ref b)/\xW s.heap (.ref b)=dD H b:=by
 obtain⟨_,its,rv,it,_⟩:=I.hok b _ h;have ia:=dh rv;refine⟨⟨b,its.toArray,ns,rfl,it,by simpa using ia,n⟩,?_⟩;rw[oE it (by simpa using ia)];unfold dD;rw[h];exact (Aa ns).symm
theorem wU {v:F}(t:zW h v)(k:∀b its,h.IsTuple b its->h'.IsTuple b its):zW h' v/\xW h' v=xW h v:=by
 obtain⟨a,its,ns,rfl,q,i,n⟩:=t;refine⟨⟨a,its,ns,rfl,k a its q,i,n⟩,?_⟩;rw[oE q i,oE (k a its q) i]
theorem D6 {h:Í}:∀{vs:List F},(∀v∈vs,zW h v)->∃fs,PySem.W.KatTups h vs fs/\fs.length=vs.length/\∀f∈fs,∃n t,f=.int n t
 | [],_=>⟨[],.nil,rfl,λf hf=>by cases hf⟩
 |v::vs,hv=>by
  obtain⟨fs,k1,k2,k3⟩:=D6 (vs:=vs) λu hu=>hv u (Ý _ hu);obtain⟨a,its,ns,rfl,⟨o,e,c,n,d⟩,i,ne⟩:=hv v Ú;have:∃m t r,its.toList=.int m t::r:=by
   generalize its.toList=l at i;cases i with
   |nil=>exact absurd rfl ne
   |cons m t r=>exact⟨m,t,_,rfl⟩
  obtain⟨m,t,r,el⟩:=this;refine⟨.int m t::fs,.cons e c d (by rw[<-Ĕ,el];rfl) k1,by rw[Ò,Ò,k2],λf hf=>?_⟩;rcases à.mp hf with rfl|hf
  ·exact⟨m,t,rfl⟩
  ·exact k3 f hf
noncomputable def Uh:F->G
 | .ref a=>a
 |_=>0
theorem ux {O:ľ}{p:G}{bs:List G}{Q:VK}(kf:G->O.α)(knd:ĩ)(I:aP X pins L H s)(hz:bs.length<=1000000)(hu:X.A.units+64<î)
  (kk:∀(A:Ñ) (E:F->Ã->Prop) (l5:List G) (s6:Ã) (Q6:ĩ->Ã->Prop),l5.Perm bs->2<=l5.length->(∀b o,s.heap.get? b=J o->s6.heap.get? b=J o)->Q6 knd s6->Å (Ä X.prog X.w) A (keyKind' (l5.map Value.ref).toArray) Q6 E s6)
  (kc:2<=bs.length->∀(A:Ñ) (E:F->Ã->Prop) (s6:Ã),A.units+30<î->(∀b o,s.heap.get? b=J o->s6.heap.get? b=J o)->mw (Ä X.prog X.w) A E s6 O (λx=>kf (Uh x.1)) knd (λx=>∃b∈bs,x.1=.ref b))
  (XN:∀(Q:List F->Ã->Prop) (E:F->Ã->Prop),(∀h1 tk (l5:List G),l5.Perm bs->(∀b o,s.heap.get? b=J o->h1.get? b=J o)->Q (l5.map Value.ref) {s with heap:=h1,toks:=tk})->Å (Ä X.prog X.w) X.A.in1 (collect (.ref p)) Q E s)
  (q:∀(l:G) (ko:List G),H l=Z->ko.Perm bs->ko.Pairwise (λx y=>O.blt (kf y) (kf x)=Y)->Q (.ref l) (cT H l (.lst (ko.map V.ref)))) :
  Å (Ä X.prog X.w) X.A (call (.builtin "sorted") [.ref p]) (EP X pins L Q) X.xe s:=by
 refine afu kind_sorted plain_sorted entry_sorted (args_sorted1 _) ?_;unfold Builtin.«sorted»;refine À (m:=checkCount "sorted" 1 1 _) (Ë ?_);refine À (XN _ _ λh1 tk l5 KO k1=>?_);have hz:l5.length<=1000000:=by rw[KO.length_eq];exact hz
 have R_:l5.length<=Â:=by rw[ī];lia
 have I1:aP X pins L H {s with heap:=h1,toks:=tk}:=I.kept (t':=tk) k1;refine À (wpAny_newList ?_ (by rw[Æ];exact R_));have RX:(h1.push {cls:=.type "list",data:=.seq (l5.map Value.ref).toArray}).get? h1.objs.size=J (seqObj "list" (l5.map Value.ref).toArray 0):=æ _ rfl;have kt:∀(h6:Í),(∀b o,b≠h1.objs.size->(h1.push {cls:=.type "list",data:=.seq (l5.map Value.ref).toArray}).get? b=J o->h6.get? b=J o)->∀b o,s.heap.get? b=J o->h6.get? b=J o:=λh6 k6 b o e=>
  k6 b o (è (Û (k1 b o e))) (Ö _ (k1 b o e))
 refine À (Ģ (Ī slot_list_sort ⟨_,RX,rfl⟩ entry_list_sort (Jg (s:={s with heap:=h1.push {cls:=.type "list",data:=.seq (l5.map Value.ref).toArray},toks:=tk}) (O:=O) (key:=λx=>kf (Uh x.1)) (knd:=knd) (D:=λx=>∃b∈bs,x.1=.ref b) RX (by rw[Æ];exact hz)
  (λh2 h6 Q6 k6 q6=>kk _ _ l5 _ _ KO (by rw[Æ] at h2;exact h2) (kt h6 k6) q6) (λh2 h6 k6=>kc (by rw[Æ] at h2;rw[<-KO.length_eq];exact h2) _ _ _ (by (simp;lia)) (kt h6 k6)) (λv hv=>by
   obtain⟨b,hb,rfl⟩:=á.mp hv;exact⟨b,KO.mem_iff.mp hb,rfl⟩) λout hp hw=>⟨_,rfl,?_⟩) (args_list_sort _)))
 obtain⟨ko,e,Bo⟩:=wR hp;subst e;obtain⟨ee,he⟩:=sortedHeap_at (out:=(ko.map Value.ref).toArray) RX;have keep:∀b o,h1.get? b=J o->(sortedHeap (h1.push {cls:=.type "list",data:=.seq (l5.map Value.ref).toArray}) h1.objs.size (l5.map Value.ref) (ko.map Value.ref).toArray).get? b=J o:=λb o e=>by
  have hb:=Û e;rw[sortedHeap_old (è hb) (by rw[Đ];exact ž hb)];exact Ö _ e
 have Nb:(ko.map V.ref).length<=Â:=by rw[Æ,Bo.length_eq];exact R_
 refine Ë ⟨_,rfl,.ref h1.objs.size,_,I1.laid (t':=tk) keep (Ð _) (show dE X.prog X.w _ _ _ (.lst _) from ⟨Nb,ko.map Value.ref,ee,wQ ko,by simpa using he⟩),rfl,q _ ko (I1.hok.fresh (Ð _)) (Bo.trans KO) ?_⟩;exact Ţ.mp hw
theorem Ab {p:G}{bs:List G}{Q:VK}(I:aP X pins L H s)(hz:bs.length<=1000000)(hu:X.A.units+64<î)(tu:∀b∈bs,∃ns:List Int,H b=J (.tup (ns.map V.int))/\ns≠[])
  (XN:∀(Q:List F->Ã->Prop) (E:F->Ã->Prop),(∀h1 tk (l5:List G),l5.Perm bs->(∀b o,s.heap.get? b=J o->h1.get? b=J o)->Q (l5.map Value.ref) {s with heap:=h1,toks:=tk})->Å (Ä X.prog X.w) X.A.in1 (collect (.ref p)) Q E s)
  (q:∀(l:G) (ko:List G),H l=Z->ko.Perm bs->ko.Pairwise (λx y=>e_ (dD H y) (dD H x)=Y)->Q (.ref l) (cT H l (.lst (ko.map V.ref)))) :
  Å (Ä X.prog X.w) X.A (call (.builtin "sorted") [.ref p]) (EP X pins L Q) X.xe s:=by
 have tI:∀b∈bs,zW s.heap (.ref b)/\xW s.heap (.ref b)=dD H b:=λb hb=>by
  obtain⟨ns,e,ne⟩:=tu b hb;exact Mb I e ne
 have kt:∀(h6:Í),(∀b o,s.heap.get? b=J o->h6.get? b=J o)->∀b its,s.heap.IsTuple b its->h6.IsTuple b its:=λh6 k6 b its ⟨o,e,z⟩=>⟨o,k6 b o e,z⟩;refine ux (O:=B5) (dD H) (tuples' M) I hz hu (λA E l5 s6 Q6 KO h2 k6 q6=>?_) (λ_ A E s6 hA k6=>?_) XN q
 ·obtain⟨fs,f1,f2,f3⟩:=D6 (h:=s6.heap) (vs:=l5.map Value.ref) λv hv=>by
   obtain⟨b,hb,rfl⟩:=á.mp hv;exact (wU (tI b (KO.mem_iff.mp hb)).1 (kt _ k6)).1
  exact PySem.W.kat_kind (T:=.type "int") f1 (by rw[f2,Æ];lia) (λv hv=>by
   obtain⟨n,t,rfl⟩:=f3 v hv;exact PySem.W.Looks.of_pure rfl) (by decide) q6
 ·have c:=Ma (prog:=X.prog) (w:=X.w) (A:=A) (E:=E) (s:=s6) (hp:=s.heap) λv hv=>wU hv (kt _ k6);refine⟨λx y st Q dx dy kd qq=>?_⟩;obtain⟨b,hb,e1⟩:=dx;obtain⟨d,hd,e2⟩:=dy;refine c.lt x y st Q (by rw[e1];exact (tI b hb).1) (by rw[e2];exact (tI d hd).1) kd ?_;rw[e1,e2,(tI b hb).2,(tI d hd).2];rw[e1,e2] at qq;exact qq
end L2
namespace L2
open Hc.Dw Hc.Ts
noncomputable def au (ns:List Int):U:=.tup (ns.map .int)
def Jh:U->Option (List Int)
 | .tup xs=>match dP xs with
  |some (n::ns)=>J (n::ns)
  |_=>Z
 |_=>Z
def wV:List U->Option (List (List Int))
 | []=>J []
 |u::us=>match Jh u,wV us with
  |some ns,J Bp=>J (ns::Bp)
  |_,_=>Z
def Fy (x:List Int):List (List Int)->List (List Int)
 | []=>[x]
 |y::r=>if e_ y x=M then y::Fy x r else x::y::r
def oF (l:List (List Int)):List (List Int):=l.foldr Fy []
theorem pV (x:List Int):∀l,(Fy x l).Perm (x::l)
 | []=>.refl _
 |y::r=>by
  unfold Fy;split
  ·exact ((pV x r).cons y).trans (.swap x y r)
  rfl
theorem cS:∀l,(oF l).Perm l
 | []=>.refl _
 |x::l=>(pV x _).trans ((cS l).cons x)
def QG (l:List (List Int)):Prop:=l.Pairwise λx y=>e_ y x=Y
theorem D7 (x:List Int):∀{l},QG l->QG (Fy x l)
 | [],_=>aeh _ _
 |y::r,h=>by
  obtain⟨h1,h2⟩:=ŏ.mp h;unfold Fy;split
  ·rename_i c;refine ŏ.mpr ⟨λz hz=>?_,D7 x h2⟩;rcases à.mp ((pV x r).mem_iff.mp hz) with rfl|hz
   ·exact KeyOrd.klt_asymm (O:=B5) c
   ·exact h1 z hz
  ·rename_i c;have c:e_ y x=Y:=by simpa using c
   refine ŏ.mpr ⟨λz hz=>?_,h⟩;rcases à.mp hz with rfl|hz
   ·exact c
   ·exact ĉ (O:=B5) (a:=x) (b:=y) (c:=z) c (h1 z hz)
theorem kQ:∀l,QG (oF l)
 | []=>List.Pairwise.nil
 |x::l=>D7 x (kQ l)
theorem xZ:∀{l m:List (List Int)},l.Perm m->QG l->QG m->l=m
 | [],m,p,_,_=>(List.nil_perm.mp p).symm
 |x::l,[],p,_,_=>absurd p.length_eq (by simp)
 |x::l,y::m,p,h1,h2=>by
  obtain⟨a1,a2⟩:=ŏ.mp h1;obtain⟨b1,b2⟩:=ŏ.mp h2;have e:x=y:=by
   have hx:x∈y::m:=p.mem_iff.mp Ú;have hy:y∈x::l:=p.mem_iff.mpr Ú;rcases à.mp hx with rfl|hx
   ·rfl
   ·rcases à.mp hy with rfl|hy
    ·rfl
    ·exact jO x y (b1 x hx) (a1 y hy)
  subst e;rw[xZ (p.cons_inv) a2 b2]
theorem Me (h:Jh u=J ns):u=au ns/\ns≠[]:=by
 unfold Jh at h;split at h
 ·split at h
  ·rename_i xs n r e;cases h;rw[fT e];exact⟨rfl,by simp⟩
  ·cases h
 ·cases h
theorem Ac:∀{us:List U} {Bp:List (List Int)},wV us=J Bp->us=Bp.map au/\∀ns∈Bp,ns≠[]
 | [],_,h=>by cases h;simp
 |u::us,Bp,h=>by
  unfold wV at h;split at h
  ·rename_i ns r e1 e2;cases h;obtain⟨e3,n3⟩:=Me e1;obtain⟨e4,n4⟩:=Ac e2;refine⟨by rw[å,<-e3,<-e4],λz hz=>?_⟩;rcases à.mp hz with rfl|hz
   ·exact n3
   ·exact n4 z hz
  ·cases h
theorem Ji (h:Rp K H A (au ns) v):∃b,v=.ref b/\H b=J (.tup (ns.map V.int))/\ns.length<=Â:=by
 unfold au Rp at h;obtain⟨b,ys,e,q,l,r⟩:=h;rw[r.toI] at q;exact⟨b,e,q,by simpa using l⟩
def QH (q:H b=J (.tup (ns.map V.int)))(l:ns.length<=Â):Rp K H A (au ns) (.ref b):=by
 unfold au Rp;exact⟨b,_,rfl,q,by simpa using l,kK ns⟩
def r9 (q:H b=J (.tup (ns.map V.int))):dD H b=ns:=by unfold dD;rw[q];exact Aa ns
theorem Ad:∀{Bp:List (List Int)} {xs:List V},ba K H A (Bp.map au) xs->∃bs:List G,xs=bs.map V.ref/\bs.map (dD H)=Bp/\∀b∈bs,H b=J (.tup ((dD H b).map V.int))/\(dD H b).length<=Â
 | [],xs,h=>by rw[afp] at h;unfold ba at h;subst h;exact⟨[],rfl,rfl,λb hb=>by cases hb⟩
 |ns::Bp,xs,h=>by
  rw[å] at h;unfold ba at h;obtain⟨x,r,rfl,h1,h2⟩:=h;obtain⟨b,rfl,q,l⟩:=Ji h1;obtain⟨bs,rfl,e,z⟩:=Ad h2;refine⟨b::bs,rfl,by rw[å,e,r9 q],λc hc=>?_⟩;rcases à.mp hc with rfl|hc
  ·rw[r9 q];exact⟨q,l⟩
  ·exact z c hc
theorem Jj {bs:List G}(h:∀b∈bs,H b=J (.tup ((dD H b).map V.int))/\(dD H b).length<=Â):ba K H A ((bs.map (dD H)).map au) (bs.map V.ref):=by
 induction bs with
 |nil=>exact ba.nil
 |cons b bs ih=>exact ba.cons (QH (h b Ú).1 (h b Ú).2) (ih λc hc=>h c (Ý _ hc))
end L2
namespace L2
open Hc.Dw Hc.Ts Hc.Sx Hc.Sy
noncomputable def uy (bH:List (List Int))(x:List Int):List (List Int):=if x∈bH then bH else bH++[x]
def eE (l:List (List Int)):List (List Int):=l.foldl uy []
def Fz (w:ß)(l:G)(bs:List G)(h:Í):Prop:=∃es ep t,l9 w h l es ep t/\(es.toList.map (·.2)).Perm (bs.map Value.ref)
theorem Jk {vs:List F}(h:ý vs ns):ItemsAre (intKind prog w) ns vs:=by
 induction h with
 |nil=>exact .nil
 |cons n t _ ih=>exact .cons (intKind_is _ _ _ _) ih
section
variable {G:Gm}{e:É}{j5 p1:Pos}{b1:Bool}{ga:Ev->R (List U×Ev)}
def oG (H:Hp)(bs:List Õ)(i:Nat):List Int×Õ:=(dD H (bs.getD i 0),bs.getD i 0)
theorem wW (H:Hp)(bs:List Õ):∀n,n<=bs.length->(eT (oG H bs) n).map (·.1)=eE ((bs.take n).map (dD H))
 |0,_=>by simp[eT,eE]
 |n+1,h=>by
  have hn:n<bs.length:=by lia
  have ih:=wW H bs n (by lia);have e1:bs.take (n+1)=bs.take n++[bs[n]]:=ϙ hn;have e2:oG H bs n=(dD H bs[n],bs[n]):=by unfold oG;simp[Ż,Ø hn]
  rw[e1,Ą];unfold eE at ih |-;rw[List.foldl_append,<-ih];show (mq (eT (oG H bs) n) (oG H bs n).1 (oG H bs n).2).map (·.1)=uy ((eT (oG H bs) n).map (·.1)) (dD H bs[n]);rw[e2];unfold mq uy;grind
def Ae (H:Hp)(bs:List Õ):(eT (oG H bs) bs.length).map (·.1)=eE (bs.map (dD H)):=by
 rw[wW H bs _ (Ð _),ź]
def Ov (w:ß)(K:Ê):List V->Hp->VK->Prop:=λxs H Q=>∃(p:Õ) (bs:List Õ),xs=[.ref p]/\eI K H p (bs.map V.ref)/\(∀b∈bs,H b=J (.tup ((dD H b).map V.int)))/\(eE (bs.map (dD H))).length<2046/\
 ∀(l:Õ) (l5:List Õ),H l=Z->l5.map (dD H)=eE (bs.map (dD H))->(∀b∈l5,b∈bs)->Q (.ref l) (cT H l (.ext (Fz w l l5)))
theorem FA (hc:X.calm=M)(hu:X.A.units+64<î):eh X (.type "set") (Ov X.w X.K):=by
 intro pins s L H xs us Q I r h;obtain⟨p,bs,rfl,hs,tu,hb,q⟩:=h;obtain⟨u,rfl,rx⟩:=gD r;cases rx;obtain⟨its,rv,pl,_⟩:=I.list hs;have e2:=pU rv;subst e2;have sz:(bs.map Value.ref).toArray.size=bs.length:=by simp
 refine zG (knd:=tI X.prog X.w) (val:=oG H bs) Y9 (λ{h h' k a} hk m=>?_) (show X.A.units+1+1+1<î by lia) (I.ok.hd hc) pl.isList (λi v hv=>?_) (λj hj=>?_) ?_ λh' tk hS hk=>?_
 ·obtain⟨o,its,n,e1,e2,e3,e4⟩:=hk;obtain⟨o',CF,Na,n',e3'⟩:=m a its ⟨o,e1,e2,n,e3⟩;exact⟨o',its,n',CF,Na,e3',e4⟩
 ·rw[<-Ĕ] at hv;rw[ă] at hv;unfold oG;cases z:bs[i]? with
  |none=>rw[z] at hv;cases hv
  |some b=>rw[z] at hv;simp only[Ż,z,aeK];exact (ó hv).symm
 ·have hj:j<bs.length:=by rw[sz] at hj;exact hj
  have em:bs.getD j 0=bs[j]:=by simp[Ż,Ø hj]
  unfold oG;rw[em];obtain⟨_,its,rv,it,_⟩:=I.hok _ _ (tu _ (ą hj));obtain⟨o,h1,h2,n,h3⟩:=it;exact⟨o,_,n,h1,h2,h3,by simpa using Jk (dh rv)⟩
 ·rw[sz];have:=congrArg ť (Ae H bs);rw[Æ] at this;lia
 ·rw[sz] at hS;obtain⟨o,es,ep,t,C,g1,g2,g3,g4,g5⟩:=hS;have XO:l9 X.w h' s.heap.objs.size es ep t:=⟨o,g1,g2,g3,g4.fits,g4.pl,g5,g4.tab.ris,g4.tab.sz⟩;have mem:∀x∈eT (oG H bs) bs.length,x.1=dD H x.2/\x.2∈bs:=λx hx=>by
   obtain⟨j,hj,rfl⟩:=lR _ _ x hx;refine⟨rfl,?_⟩;have em:bs.getD j 0=bs[j]:=by simp[Ż,Ø hj]
   show bs.getD j 0∈bs;rw[em];exact ą hj
  refine⟨.ref s.heap.objs.size,_,I.laid (a:=s.heap.objs.size) (o:=.ext (Fz X.w s.heap.objs.size ((eT (oG H bs) bs.length).map (·.2)))) (t':=tk) hk (Ð _)
   ⟨⟨es,ep,t,XO,?_⟩,⟨o,g1⟩,λh1 h2 ⟨es,ep,t,r,z⟩ k=>⟨es,ep,t,r.at k,z⟩⟩,rfl,q _ _ (I.hok.fresh (Ð _)) ?_ λb hb=>?_⟩
  ·refine (g4.per.map (·.2)).trans (List.Perm.of_eq ?_);rw[ö,ö];rfl
  ·rw[<-Ae H bs,ö];exact Ο λx hx=>(mem x hx).1.symm
  ·obtain⟨x,hx,rfl⟩:=á.mp hb;exact (mem x hx).2
def Jl (w:ß):List V->Hp->VK->Prop:=λxs H Q=>∃(p:Õ) (bs:List Õ),xs=[.ref p]/\H p=J (.ext (Fz w p bs))/\bs.length<=1000000/\(∀b∈bs,∃ns:List Int,H b=J (.tup (ns.map V.int))/\ns≠[])/\
  ∀(l:Õ) (ko:List Õ),H l=Z->ko.Perm bs->ko.Pairwise (λx y=>e_ (dD H y) (dD H x)=Y)->Q (.ref l) (cT H l (.lst (ko.map V.ref)))
theorem B7 (hc:X.calm=M)(hu:X.A.units+64<î):eh X (.builtin "sorted") (Jl X.w):=by
 intro pins s L H xs us Q I r h;obtain⟨p,bs,rfl,hs,hz,tu,q⟩:=h;obtain⟨u,rfl,rx⟩:=gD r;cases rx;obtain⟨⟨es,ep,t,XO,per⟩,_,_⟩:=I.hok p _ hs;refine Ab I hz hu tu (λQ E hq=>?_) q;have n:es.size=bs.length:=by have:=per.length_eq;simpa using this
 refine zZ (A:=X.A.in1) WW (I.ok.hd hc) XO (by rw[n,ī];lia) λh1 tk bH k1 ia=>?_;have e:bH.toList=(vI X.w p ep es).toList.map (·.2):=by
  apply afD;intro i;rw[Ĕ,ă,Ĕ];by_cases hi:i<bH.size
  ·rw[getElem?_pos bH i hi];obtain⟨en,e1,e2⟩:=ia.2 i _ (getElem?_pos bH i hi);rw[e1,e2];rfl
  ·rw[getElem?_neg bH i hi,getElem?_neg _ i (by rw[z_,<-ia.1];exact hi)];rfl
 obtain⟨l5,e3,e4⟩:=wR ((z9.map (·.2)).trans per);rw[e,e3];exact hq h1 tk l5 e4 k1
def eF:List U->R U:=λus=>match us with
 | [.lst xs]=>match wV xs with
  |some Bp=>if (eE Bp).length<2046 then .ok (.lst ((oF (eE Bp)).map au)) else .stk
  |none=>.stk
 |_=>.stk
theorem oH:∀(l bH:List (List Int)) (x:List Int),x∈l.foldl uy bH->x∈bH\/x∈l
 | [],bH,x,h=>.inl h
 |y::l,bH,x,h=>by
  rcases oH l _ x h with z|z
  ·unfold uy at z;split at z
   ·exact .inl z
   ·rcases ñ.mp z with z|z
    ·exact .inl z
    ·exact .inr (by rw[ð.mp z];exact Ú)
  ·exact .inr (Ý _ z)
theorem Af:mR K (λvs H Q=>Ov w K vs H λx H2=>Jl w [x] H2 Q) .O eF:=λA H vs us z Q h mu e q=>by
 unfold eF at e;split at e
 ·rename_i xs;split at e
  ·rename_i Bp e1;split at e
   ·rename_i hl;cases e;obtain⟨v,rfl,p⟩:=h.one;unfold Pk at p;obtain⟨a,ys,rfl,h1,l1,r1⟩:=p;obtain⟨e2,ne⟩:=Ac e1;subst e2;obtain⟨bs,rfl,e4,e5⟩:=Ad r1;refine⟨a,bs,rfl,eI.of h1,λb hb=>(e5 b hb).1,by rw[e4];exact hl,λl l5 hn k2 sub=>?_⟩;have sm:=cK hn (.ext (Fz w l l5));have kb:∀b∈bs,dD (cT H l (.ext (Fz w l l5))) b=dD H b:=λb hb=>by
     rw[r9 (sm _ _ (e5 b hb).1)]
    have ln:l5.length=(eE Bp).length:=by rw[<-e4,<-k2,Æ]
    refine⟨l,l5,rfl,aW,by lia,λb hb=>⟨_,sm _ _ (e5 b (sub b hb)).1,?_⟩,λl' ko O1 hp hw=>?_⟩
    ·grind
    ·have ZQ:(ko.map (dD H)).Pairwise λx y=>e_ y x=Y:=by
      refine Ţ.mpr (ϻ (λ{x y} hx hy z=>?_) hw);rw[kb x (sub x (hp.mem_iff.mp hx)),kb y (sub y (hp.mem_iff.mp hy))] at z;exact z
     have e7:ko.map (dD H)=oF (eE Bp):=xZ ((hp.map (dD H)).trans (by rw[k2,e4];exact (cS _).symm)) ZQ (kQ _);have ZR:=sm.trans (cK O1 (.lst (ko.map V.ref)));have na:H l'=Z:=by
      cases z:H l' with
      |none=>rfl
      |some o=>rw[sm _ _ z] at O1;cases O1
     refine q _ _ ZR ⟨l',rfl,na,?_⟩;rw[<-e7];refine cQ (λb hb=>?_) ?_ O1 ?_
     ·have m:=mu b hb;obtain⟨o,z⟩:=m.ex;rw[sm b o z,<-z];exact m
     ·have k3:ko.map (dD H)=ko.map (dD (cT H l (.ext (Fz w l l5)))):=Ο λb hb=>(kb b (sub b (hp.mem_iff.mp hb))).symm;rw[k3];refine Jj λb hb=>?_;have Gf:=sub b (hp.mem_iff.mp hb);rw[kb b Gf];exact⟨sm _ _ (e5 b Gf).1,(e5 b Gf).2⟩
     ·have:Â=16777216:=rfl;rw[Æ,Æ,hp.length_eq];lia
   ·cases e
  ·cases e
 ·cases e
def jP (hc:X.calm=M)(hu:X.A.units+64<î)(ha:DA X G [e] b1 M ga)(hm:X.mg "sorted"=Z)(XG:X.mg "set"=Z)(hg:Gl X "sorted":=by rfl)(R1:Gl X "set":=by rfl)
  (he:Ç [e] X.env=(Y,Ì e X.env)::Ç [] X.env:=by rfl) (jh:(ã j5 (Ç [] X.env)).any (·.1)=Y:=by rfl)
  (Vj:Ç [.Call (.Name "set" p2) [e] [] j5] X.env=(Y,Ì (.Call (.Name "set" p2) [e] [] j5) X.env)::Ç [] X.env:=by rfl) (CD:(ã pos (Ç [] X.env)).any (·.1)=Y:=by rfl) :
  DE X G (.Call (.Name "sorted" p1) [.Call (.Name "set" p2) [e] [] j5] [] pos) b1 .O (dq eF ga):=⟨(jk (B7 hc hu) hg hm pF (df (eP (FA hc hu) R1 XG HM ha.un (by decide) (by decide) he jh) gm Vj) (by decide) (by decide) Vj CD).to λ_ _ _ h=>rW (p:=M) (Af (K:=X.K)) h⟩
end
end L2
namespace L2
open Hc.Dw Hc.Ts
section
variable {G:Gm}{e:É}{tl:TE}{cO dJ p1:Pos}{b1:Bool}{m1:Md}{g1:Ev->R (U×Ev)}
noncomputable def uz (ns:List Int):Bool:=decide (ns.length<=1000000)&&ns.all λn=>decide (0<=n/\n<=1000000000)
theorem kS (ns:List Int):∀j,j<=ns.length->preSum (λi=>ns.getD i 0) j=(ns.take j).sum
 |0,_=>rfl
 |j+1,h=>by
  unfold preSum;rw[kS ns j (by lia),ϙ (by lia),List.sum_append];simp[Ø (show j<ns.length by lia)]
theorem wX:∀{ns:List Int},(ns.all λn=>decide (0<=n/\n<=1000000000))=M->0<=ns.sum/\ns.sum<=ns.length*1000000000
 | [],_=>by simp
 |n::ns,h=>by
  rw[Œ,é] at h;obtain⟨a,b⟩:=wX h.2;(simp;lia)
end
end L2
namespace L2
open Hc.Dw Hc.Ts
noncomputable def FC:F->Int×Tok
 | .int n t=>(n,t)
 |_=>(0,0)
theorem FD (h:ý its ns):intItems (its.map FC).toArray=its.toArray/\∀i,numAt (its.map FC).toArray i=ns.getD i 0:=by
 constructor
 ·unfold intItems;rw[List.map_toArray,ö];congr 1
  induction h with
  |nil=>rfl
  |cons n t _ ih=>rw[å,ih];rfl
 ·induction h with
  |nil=>unfold numAt;simp
  |cons n t _ ih=>
   intro i;cases i with
   |zero=>rfl
   |succ i=>
    simp_all[numAt,Ż]
section
variable {G:Gm}
def Ow (K:Ê):List V->Hp->VK->Prop:=λxs H Q=>∃p ns,xs=[.ref p]/\eI K H p (ns.map V.int)/\uz ns=M/\Q (.int ns.sum) H
theorem FE (hc:X.calm=M):eh X (.builtin "sum") (Ow X.K):=by
 intro pins s L H xs us Q I r h;obtain⟨p,ns,rfl,hs,sm,q⟩:=h;obtain⟨u,rfl,rx⟩:=gD r;cases rx;obtain⟨its,rv,pl,_⟩:=I.list hs;have hI:=dh rv;obtain⟨t1,t2⟩:=FD hI;have sz:(its.map FC).toArray.size=ns.length:=by simp[hI.length]
 unfold uz at sm;rw[é] at sm;have s1:=of_decide_eq_true sm.1;have fe:=funext t2;refine sum_intList (I.ok.hd hc) (by rw[t1];exact pl.isList) (λj hj=>?_) λh' tk t' k=>?_
 ·rw[sz] at hj;have al:=sm.2;rw[fe];refine⟨?_,?_⟩
  ·have:=ì.mp al ns[j] (ą hj);have:=of_decide_eq_true this;unfold InLong;simp only[Ż,Ø hj,aeK];(simp at *;lia)
  ·rw[kS ns (j+1) (by lia)];have ZS:((ns.take (j+1)).all _)=M:=ì.mpr λx hx=>ì.mp al x (Ļ hx);obtain⟨p1,p2⟩:=wX ZS;grind[ÿ,InLong]
 ·have e:preSum (numAt (its.map FC).toArray) (its.map FC).toArray.size=ns.sum:=by rw[fe,sz,kS ns ns.length (Ð _),ź]
  rw[e];exact⟨.int ns.sum,H,I.kept k,⟨t',rfl⟩,q⟩
def Ag:List U->R U:=λus=>match us with
 | [.lst xs]=>match dP xs with
  |some ns=>if uz ns=M then .ok (.int ns.sum) else .stk
  |none=>.stk
 |_=>.stk
theorem Jm:mR K (Ow K) .S Ag:=λA H vs us z Q h mu e q=>by
 unfold Ag at e;split at e
 ·split at e
  ·rename_i ns hb;split at e
   ·rename_i hl;cases e;obtain⟨v,rfl,p⟩:=h.one;obtain⟨a,ys,rfl,h1,l1,r1⟩:=p;rw[fT hb] at r1;rw[r1.toI] at h1;exact⟨a,ns,rfl,eI.of h1,hl,q _ H (aO.refl _) (show Rp K H A _ _ from dC)⟩
   ·cases e
  ·cases e
 ·cases e
end
end L2
namespace Hc.Ts
open PySem.W
theorem Ah:∀a b,HT.lexLt a b=e_ a b
 | [],[]=>rfl
 | [],_::_=>rfl
 |_::_,[]=>rfl
 |x::xs,y::ys=>by
  rw[HT.lexLt_cons,e_,Ah xs ys]
def ng (h:Í)(a t b:G)(its:Array F)(ns:List Int):Prop:=h.IsTuple a #[.ref t,.ref b]/\h.IsTuple t its/\ý its.toList ns
theorem ng.keep {t:G}{its:Array F}(x:ng h a t b its ns)(k:∀b o,h.get? b=J o->h'.get? b=J o):ng h' a t b its ns:=by
 obtain⟨⟨o1,e1,r1⟩,⟨o2,e2,r2⟩,i⟩:=x;exact⟨⟨o1,k _ _ e1,r1⟩,⟨o2,k _ _ e2,r2⟩,i⟩
section
variable {A:Ñ}
theorem items_int {vs:List F}(h:ý vs ns):ItemsAre (intKind prog w) ns vs:=by
 induction h with
 |nil=>exact .nil
 |cons n t _ ih=>exact .cons (intKind_is _ _ _ _) ih
theorem Ui {t:G}{its:Array F}(h:s.heap.IsTuple t its)(i:ý its.toList ns):IsTupleKey (intKind prog w) s.heap ns t:=by
 obtain⟨o,e,c,n,d⟩:=h;exact⟨o,its,n,e,c,d,items_int i⟩
def r_ {Q:Bool->Ã->Prop}(q:Q M s):Å (Ä prog w) A (eqBool (.ref b) (.ref b)) Q E s:=by
 unfold eqBool;refine Ģ ?_;rw[hV (by simp)];exact À (ĸ (Ë q))
theorem Jn {h0:Í}{bs:List G}{kf:G->List Int}(hu:A.units<î)(at_:∀a∈bs,∃t b its,ng h0 a t b its (kf a))(inj:∀a∈bs,∀c∈bs,kf a=kf c->a=c)(keep:∀b o,h0.get? b=J o->s.heap.get? b=J o)
  {key:Á->List Int} (Nf:∀x:Á,∀a∈bs,x.1=.ref a->key x=kf a):mw (Ä prog w) A E s B5 key (tuples' Y) (λx=>∃a∈bs,x.1=.ref a) where
 lt:=λx y st Q dx dy kd q=>by
  obtain⟨a,ha,e1⟩:=dx;obtain⟨c,hc,e2⟩:=dy;rw[Nf x a ha e1,Nf y c hc e2] at q;obtain⟨t1,b1,i1,p1⟩:=at_ a ha;obtain⟨t2,b2,i2,p2⟩:=at_ c hc;obtain⟨u1,v1,w1⟩:=p1.keep keep;obtain⟨u2,v2,w2⟩:=p2.keep keep;rw[lt'_eq];refine Î (Ľ ?_);rw[kd,e1,e2];have ZT:=u1;have ZU:=u2;obtain⟨o1,g1,_,n1,d1⟩:=u1;obtain⟨o2,g2,_,n2,d2⟩:=u2;refine Î (wpS_lift (Ι (kat_lt g1 d1 g2 d2 ?_)));refine kat_cons (wpAny_eqBool_tuple (knd:=intKind prog w) hu (Ui v1 w1) (Ui v2 w2) ?_);by_cases hk:kf a=kf c
  ·have ZV:=inj a ha c hc hk;subst ZV;rw[hG hk];refine kat_yes ?_;obtain⟨_,z1,_,_,z2⟩:=ZT;obtain⟨_,z3,_,_,z4⟩:=ZU;rw[z1] at z3;cases z3;rw[z2] at z4;cases z4;refine kat_cons (r_ (kat_yes (kat_nil ⟨rfl,?_⟩)));rw[show B5.blt (kf a) (kf a)=Y from kP _] at q;exact Ó q
  ·rw[hJ hk];refine kat_no (kat_one _ _ (HT.lt_tupInts v1 v2 w1 w2 hu ?_));rw[Ah];exact⟨rfl,Ó q⟩
theorem FF {bs:List G}{Q:ĩ->Ã->Prop}(h2:2<=bs.length)(at_:∀a∈bs,∃t b its ns,ng s.heap a t b its ns)(q:Q (tuples' Y) s):Å (Ä prog w) A (keyKind' (bs.map Value.ref).toArray) Q E s:=by
 have kt:∀l:List G,(∀a∈l,∃t b its ns,ng s.heap a t b its ns)->∃fs,KatTups s.heap (l.map Value.ref) fs/\fs.length=l.length/\∀f∈fs,∃t its,f=.ref t/\s.heap.IsTuple t its:=by
  intro l
  induction l with
  |nil=>exact λ_=>⟨[],.nil,rfl,λf hf=>by cases hf⟩
  |cons a l ih=>
   intro h;obtain⟨fs,k1,k2,k3⟩:=ih λc hc=>h c (Ý _ hc);obtain⟨t,b,its,ns,⟨o,e,c,n,d⟩,v,_⟩:=h a Ú;refine⟨.ref t::fs,.cons e c d rfl k1,by rw[Ò,Ò,k2],λf hf=>?_⟩;rcases à.mp hf with rfl|hf
   ·exact⟨t,its,rfl,v⟩
   ·exact k3 f hf
 obtain⟨fs,k1,k2,k3⟩:=kt bs at_;refine kat_kind (T:=.type "tuple") k1 (by lia) (λv hv=>?_) (by decide) q;obtain⟨t,its,rfl,o,e,c,_⟩:=k3 v hv;rw[<-c];exact (Looks.ld e).andThen .now
end
end Hc.Ts
namespace L2
open Hc.Dw Hc.Ts
def iA (H:Hp)(b:G):List Int:=match H b with
 |some (.tup [.ref t,_])=>dD H t
 |_=>[]
def D8 (H:Hp)(b:G):Prop:=∃t x,H b=J (.tup [.ref t,.ref x])/\H t=J (.tup ((iA H b).map V.int))
section
variable {G:Gm}
def Jo (K:Ê):List V->Hp->VK->Prop:=λxs H Q=>∃(p:Õ) (bs:List Õ),xs=[.ref p]/\eI K H p (bs.map V.ref)/\bs.length<=1000000/\(∀b∈bs,D8 H b)/\(bs.map (iA H)).Nodup/\
  ∀(l:Õ) (ko:List Õ),H l=Z->ko.Perm bs->ko.Pairwise (λx y=>e_ (iA H y) (iA H x)=Y)->Q (.ref l) (cT H l (.lst (ko.map V.ref)))
theorem wY {α β:Type}{f:α->β}:∀{l:List α},(l.map f).Nodup->∀a∈l,∀b∈l,f a=f b->a=b
 | [],_,a,ha,_,_,_=>by cases ha
 |x::l,h,a,ha,b,hb,e=>by
  rw[å] at h;obtain⟨h1,h2⟩:=Ť.mp h;rcases à.mp ha with ea|CG
  ·rcases à.mp hb with eb|Gf
   ·rw[ea,eb]
   ·exact absurd (by rw[<-ea,e];exact ο Gf) h1
  ·rcases à.mp hb with eb|Gf
   ·exact absurd (by rw[<-eb,<-e];exact ο CG) h1
   ·exact wY h2 a CG b Gf e
theorem wZ (I:aP X pins L H s)(h:D8 H b):∃t x its,ng s.heap b t x its (iA H b):=by
 obtain⟨t,x,h1,h2⟩:=h;obtain⟨_,its,rv,it,_⟩:=I.hok b _ h1;obtain⟨_,its2,nF,it2,_⟩:=I.hok t _ h2;cases rv with
 |cons r1 rv=>
  cases rv with
  |cons r2 rv=>
   cases rv;cases r1;cases r2;exact⟨t,x,_,it,it2,by simpa using dh nF⟩
theorem B8 (hc:X.calm=M)(hu:X.A.units+64<î):eh X (.builtin "sorted") (Jo X.K):=by
 intro pins s L H xs us Q I r h;obtain⟨p,bs,rfl,hs,hz,tu,nd,q⟩:=h;obtain⟨u,rfl,rx⟩:=gD r;cases rx;have R_:bs.length<=Â:=by rw[ī];lia
 refine ux (O:=B5) (iA H) (tuples' Y) I hz hu (λA E l5 s6 Q6 KO h2 k6 q6=>?_) (λ_ A E s6 hA k6=>?_) (λQ E hq=>?_) q
 ·refine FF h2 (λa ha=>?_) q6;obtain⟨t,x,its,z⟩:=wZ I (tu a (KO.mem_iff.mp ha));exact⟨t,x,its,_,z.keep k6⟩
 ·exact Jn (h0:=s.heap) (kf:=iA H) (by lia) (λa ha=>wZ I (tu a ha)) (wY nd) k6 (λx a _ e=>by rw[e];rfl)
 ·obtain⟨its,rv,pl,_⟩:=I.list hs;obtain⟨o,e,c,n,d⟩:=pl.isList;have e2:=pU rv;subst e2;exact wpAny_collect_seq p (.inl rfl) e c d (λh1 k1=>by simpa using hq h1 s.toks bs (Ŀ _) k1) (by rw[ë,Æ];exact R_)
def kq (p:List Int×U):U:=.tup [au p.1,p.2]
def D9:U->Option (List Int×U)
 | .tup [.tup ks,.tup us]=>(dP ks).map λns=>(ns,.tup us)
 |_=>Z
def nh:List U->Option (List (List Int×U))
 | []=>J []
 |u::us=>match D9 u,nh us with
  |some p,J ps=>J (p::ps)
  |_,_=>Z
noncomputable def j9 (ps:List (List Int×U))(k:List Int):U:=(ps.lookup k).getD .non
def uA (ps:List (List Int×U)):List (List Int×U):=(oF (ps.map (·.1))).map λk=>(k,j9 ps k)
def uB:List U->R U:=λus=>match us with
 | [.lst xs]=>match nh xs with
  |some ps=>if ps.length<=1000000/\(ps.map (·.1)).Nodup then .ok (.lst ((uA ps).map kq)) else .stk
  |none=>.stk
 |_=>.stk
theorem Jp {p:List Int×U}(h:D9 u=J p):u=kq p/\∃us,p.2=.tup us:=by
 unfold D9 at h;split at h
 ·rename_i ks us;cases e:dP ks with
  |none=>rw[e] at h;cases h
  |some ns=>
   rw[e] at h;cases h;unfold kq au;rw[fT e];exact⟨rfl,us,rfl⟩
 ·cases h
theorem w6:∀{us:List U} {ps:List (List Int×U)},nh us=J ps->us=ps.map kq/\∀p∈ps,∃us,p.2=.tup us
 | [],ps,h=>by unfold nh at h;grind
 |u::us,ps,h=>by
  unfold nh at h;split at h
  ·rename_i p ps' e1 e2;cases h;obtain⟨a1,a2⟩:=Jp e1;obtain⟨b1,b2⟩:=w6 e2;refine⟨by rw[å,<-a1,<-b1],λq hq=>?_⟩;rcases à.mp hq with rfl|hq
   ·exact a2
   ·exact b2 q hq
  ·cases h
theorem Mf {p:List Int×U}(h:Rp K H A (kq p) v)(t:∃us,p.2=.tup us):∃b,v=.ref b/\D8 H b/\iA H b=p.1:=by
 obtain⟨us,e⟩:=t;unfold kq at h;unfold Rp at h;obtain⟨b,xs,rfl,q,l,r⟩:=h;unfold ba at r;obtain⟨v1,r1,rfl,p1,r⟩:=r;unfold ba at r;obtain⟨v2,r2,rfl,p2,r⟩:=r;unfold ba at r;subst r;obtain⟨t,rfl,ht,_⟩:=Ji p1;rw[e] at p2;unfold Rp at p2;obtain⟨x,ys,rfl,_⟩:=p2;have k:iA H b=p.1:=by unfold iA;rw[q];exact r9 ht
 exact⟨b,rfl,⟨t,x,q,by rw[k];exact ht⟩,k⟩
theorem w9 {H:Hp}{A:Õ->Prop}:∀{ps:List (List Int×U)} {xs:List V},ba K H A (ps.map kq) xs->(∀p∈ps,∃us,p.2=.tup us)->∃bs:List Õ,xs=bs.map V.ref/\bs.map (iA H)=ps.map (·.1)/\(∀b∈bs,D8 H b)/\
  ((ps.map (·.1)).Nodup->∀b∈bs,Rp K H A (kq (iA H b,j9 ps (iA H b))) (.ref b))
 | [],xs,h,_=>by rw[afp] at h;unfold ba at h;subst h;exact⟨[],rfl,rfl,⟨λb hb=>(nomatch hb),λ_ b hb=>(nomatch hb)⟩⟩
 |p::ps,xs,h,t=>by
  rw[å] at h;unfold ba at h;obtain⟨x,r,rfl,h1,h2⟩:=h;obtain⟨b,rfl,b2,b3⟩:=Mf h1 (t p Ú);obtain⟨bs,rfl,c2,c3,c4⟩:=w9 h2 λq hq=>t q (Ý _ hq);refine⟨b::bs,rfl,by rw[å,å,b3,c2],λc hc=>?_,λnd c hc=>?_⟩
  ·rcases à.mp hc with rfl|hc
   ·exact b2
   ·exact c3 c hc
  ·rw[å] at nd;obtain⟨n1,n2⟩:=Ť.mp nd;rcases à.mp hc with rfl|hc
   ·have e:j9 (p::ps) (iA H c)=p.2:=by unfold j9;rw[b3,Ğ,beq_self_eq_true];rfl
    rw[e,b3];exact h1
   ·have ne:iA H c≠p.1:=λz=>n1 (by rw[<-z,<-c2];exact ο hc);have e:j9 (p::ps) (iA H c)=j9 ps (iA H c):=by unfold j9;rw[Ğ,beq_eq_false_iff_ne.mpr ne]
    rw[e];exact c4 n2 c hc
theorem FG:mR K (Jo K) .O uB:=λA H vs us z Q h mu e q=>by
 unfold uB at e;split at e
 ·rename_i xs;split at e
  ·rename_i ps e1;split at e
   ·rename_i hl;cases e;obtain⟨v,rfl,p⟩:=h.one;unfold Pk at p;obtain⟨a,ys,rfl,h1,l1,r1⟩:=p;obtain⟨e2,tp⟩:=w6 e1;subst e2;obtain⟨bs,rfl,c2,c3,c4⟩:=w9 r1 tp;have ln:bs.length=ps.length:=by have:=congrArg ť c2;simpa using this
    refine⟨a,bs,rfl,eI.of h1,by lia,c3,by rw[c2];exact hl.2,λl ko hn hp hw=>?_⟩;have e7:ko.map (iA H)=oF (ps.map (·.1)):=xZ ((hp.map (iA H)).trans (by rw[c2];exact (cS _).symm)) (Ţ.mpr hw) (kQ _);refine q _ _ (cK hn _) ⟨l,rfl,hn,?_⟩;have e8:(uA ps).map kq=ko.map λb=>kq (iA H b,j9 ps (iA H b)):=by
     unfold uA;rw[<-e7,ö,ö];rfl
    rw[e8];refine cQ mu ?_ hn ?_
    ·have all:∀b∈ko,Rp K H A (kq (iA H b,j9 ps (iA H b))) (.ref b):=λb hb=>c4 hl.2 b (hp.mem_iff.mp hb);clear hw e7 e8 hp
     induction ko with
     |nil=>exact ba.nil
     |cons b ko ih=>exact ba.cons (all b Ú) (ih λc hc=>all c (Ý _ hc))
    ·have:Â=16777216:=rfl;rw[Æ,hp.length_eq];simp_all
   ·cases e
  ·cases e
 ·cases e
end
end L2
namespace L2
section
variable {G:Gm}
def QI (K:Ê)(f:Bool->Bool):R2:=λx y H Q=>∃p xs ds dx,y=.ref p/\(eI K H p xs\/fE K H p xs)/\i6 K H dx x/\fY K H ds xs/\(∀d∈ds,du d<=30)/\Q (.bl (f (ds.any λd=>i7 d dx))) H
open Classical in
def Ai (its:List F)(ds:List D)(dx:D)(u:F):Bool:=decide (∃(i:Nat) (d:D),its[i]? = J u/\ds[i]? = J d/\i7 d dx=M)
open Classical in
def sd {u:F}:Ai its ds dx u=M↔∃(i:Nat) (d:D),its[i]? = J u/\ds[i]? = J d/\i7 d dx=M:=by
 unfold Ai;exact decide_eq_true_iff
theorem se (hl:its.length=ds.length):its.any (Ai its ds dx)=ds.any λd=>i7 d dx:=by
 rw[Γ,ϥ,ϥ];constructor
 ·rintro⟨u,_,h⟩;obtain⟨i,d,_,h2,h3⟩:=sd.mp h;exact⟨d,į h2,h3⟩
 ·rintro⟨d,hd,h⟩;obtain⟨i,hi,e⟩:=Ρ.mp hd;have O6:i<its.length:=by simp[*]
  exact⟨its[i],ą O6,sd.mpr ⟨i,d,Ø O6,by rw[Ø hi,e],h⟩⟩
theorem oI (I:aP X pins L H s){A:Ñ}(hA:A.units+30<î){x:V}{v:F}(rx:bE x v)(hx:i6 X.K H dx x)(rv:bf xs its)(hs:fY X.K H ds xs)(hd:∀d∈ds,du d<=30) :
  ∀u∈its,ŉ A s u v (Ai its ds dx u):=λu hu=>by
 have l1:=rv.length;have l2:=hs.length;have at_:∀(i:Nat) (d:D),its[i]? = J u->ds[i]? = J d->ŉ A s u v _:=λi d h1 h2=>by
  have hi:=(ċ.mp h1).1;have h3:xs[i]? = J (xs[i]'(by simp[*])):=Ø _;obtain⟨u',g1,g2⟩:=rv.get h3;rw[h1] at g1;cases g1;exact BF I 30 d dx _ x u v A (hd d (į h2)) hA (hs.get h2 h3) hx g2 rx
 by_cases c:∃(i:Nat) (d:D),its[i]? = J u/\ds[i]? = J d/\i7 d dx=M
 ·obtain⟨i,d,h1,h2,h3⟩:=c;have e:=sd.mpr ⟨i,d,h1,h2,h3⟩;rw[e,<-h3];exact at_ i d h1 h2
 ·have e:=Α.mpr λz=>c (sd.mp z);obtain⟨i,hi,eu⟩:=Ρ.mp hu;have h1:its[i]? = J u:=by rw[Ø hi,eu]
  have h2:ds[i]? = J (ds[i]'(by simp[*])):=Ø _;have e2:i7 (ds[i]'(by simp[*])) dx=Y:=by
   cases z:i7 _ dx with
   |false=>rfl
   |true=>exact absurd ⟨i,_,h1,h2,z⟩ c
  rw[e,<-e2];exact at_ i _ h1 h2
theorem QJ (hu:X.A.units+64<î):iL X (ú .In) (QI X.K id):=by
 intro pins s L H x y v u Q I rx ry h;obtain⟨p,xs,ds,dx,rfl,hq,hx,hs,hd,q⟩:=h;cases ry;rcases hq with hq|hq
 ·obtain⟨its,r,pl,hz⟩:=I.list hq;refine SeqAt.in_listAt _ pl.isList (λw hw=>oI I (by lia) rx hx r hs hd w (by simpa using hw)) ⟨.bl _,H,I,rfl,?_⟩;rw[show its.toArray.any _=its.any (Ai its ds dx) by simp,se (by rw[<-r.length,<-hs.length])];exact q
 ·obtain⟨its,r,pl,hz⟩:=I.tuple hq;refine SeqAt.in_tupleAt _ pl (λw hw=>oI I (by lia) rx hx r hs hd w (by simpa using hw)) ⟨.bl _,H,I,rfl,?_⟩;rw[show its.toArray.any _=its.any (Ai its ds dx) by simp,se (by rw[<-r.length,<-hs.length])];exact q
theorem FH (hu:X.A.units+64<î):iL X (ú .NotIn) (QI X.K not):=by
 intro pins s L H x y v u Q I rx ry h;obtain⟨p,xs,ds,dx,rfl,hq,hx,hs,hd,q⟩:=h;cases ry;rcases hq with hq|hq
 ·obtain⟨its,r,pl,hz⟩:=I.list hq;refine SeqAt.notIn_listAt _ pl.isList (λw hw=>oI I (by show X.A.units+1+30<î;lia) rx hx r hs hd w (by simpa using hw)) ⟨.bl _,H,I,rfl,?_⟩;rw[show its.toArray.any _=its.any (Ai its ds dx) by simp,se (by rw[<-r.length,<-hs.length])];exact q
 ·obtain⟨its,r,pl,hz⟩:=I.tuple hq;refine SeqAt.notIn_tupleAt _ pl (λw hw=>oI I (by show X.A.units+1+30<î;lia) rx hx r hs hd w (by simpa using hw)) ⟨.bl _,H,I,rfl,?_⟩;rw[show its.toArray.any _=its.any (Ai its ds dx) by simp,se (by rw[<-r.length,<-hs.length])];exact q
noncomputable def B9:U->Option (List U)
 | .lst us=>J us
 | .tup us=>J us
 |_=>Z
def KZ (f:Bool->Bool):U->U->R U:=λu w=>match iN u,(B9 w).bind ij with
 |some dx,J ds=>if (ds.all λd=>decide (du d<=30))=M then .ok (.bl (f (ds.any λd=>i7 d dx))) else .stk
 |_,_=>.stk
theorem Jq {f:Bool->Bool}:ez K (QI K f) .S (KZ f):=λA H x y u w z Q hx hy mu e q=>by
 unfold KZ at e;split at e
 ·rename_i dx ds h1 h2;split at e
  ·rename_i hd;cases e;cases w with
   |lst us=>
    obtain⟨a,xs,rfl,h3,l1,r1⟩:=hy;exact⟨a,xs,ds,dx,rfl,.inl (eI.of h3),xG hx h1,lM r1 h2,λd m=>of_decide_eq_true (ì.mp hd d m),q _ H (aO.refl _) (show Rp K H A _ _ from fA)⟩
   |tup us=>
    obtain⟨a,xs,rfl,h3,l1,r1⟩:=hy;exact⟨a,xs,ds,dx,rfl,.inr (fE.of h3),xG hx h1,lM r1 h2,λd m=>of_decide_eq_true (ì.mp hd d m),q _ H (aO.refl _) (show Rp K H A _ _ from fA)⟩
   |_=>cases h2
  ·cases e
 ·cases e
end
end L2
namespace L2
def Mg (j:Nat)(p:U->U->R U)(g2:Ev->R (U×Ev)):Ev->R (U×Ev):=λB=>if live B j=M then (g2 B).bind λy=>match y.2[j]? with
 |some (J u)=>(p u y.1).bind λz=>.ok (z,y.2)
 |_=>.stk else .stk
section
variable {G:Gm}{b:É}{p1:Pos}{b2:Bool}{m2 mr:Md}{g2:Ev->R (U×Ev)}
theorem QK {op:Operator}{r:R2}(ho:iL X (Ę op) r)(hp:ez X.K r mr p)(hb:DE X G b b2 m2 g2)(hN:X.N[j]? = J x:=by rfl)(hv:EK X.env.scope x:=by first|exact Or.inl rfl|exact Or.inr (Or.inl rfl)|exact Or.inr (Or.inr rfl))(hd:(x==("__debug__":Str))=Y:=by decide)(iQ:(x==("__classdict__":Str))=Y:=by decide)(c:G.is j=M:=by rfl):DE X G (.BinOp (.Name x p1) op b pos) b2 mr (Mg j p g2):=⟨(GB ho (i5 hN hv hd iQ) hb.un).to λL H Q h00=>by
 obtain⟨Zq,A,B,q,f⟩:=h00;unfold Mg at f;by_cases hl:live B j=M
 ·rw[hV hl] at f;obtain⟨u0,hu0⟩:=xD hl;obtain⟨a0,h0,_⟩:=q.own c hu0;obtain⟨⟨w,B2⟩,e2,f⟩:=f.bind;refine⟨.ref a0,h0,Zq,A,B,q,?_⟩;rw[e2];intro v2 H2 q2 x2 s2 yN;split at f
  ·rename_i u hu;obtain⟨a1,k1,_,_,_,k5⟩:=q2.own c hu;rw[h0] at k1;cases k1;obtain⟨z,e3,f⟩:=f.bind;refine hp A H2 _ v2 u w z Q k5.pk yN.pk q2.mu e3 λv H' sm vm=>?_;exact f v H' (q2.same sm) (x2.trans (eQ.same sm)) (nQ s2 sm) (vm.e q2 sm)
  ·exact f.elim
 ·rw[hU hl] at f;exact f.elim⟩
end
end L2
namespace L2
open Hc.Dw Hc.Ts
noncomputable def QL:U->U->R Bool
 | .int a,.int b=>.ok (a==b)
 | .bl a,.bl b=>.ok (a==b)
 | .str a,.str b=>.ok (a==b)
 |_,_=>.stk
def gI (f:Bool->Bool):U->U->R U:=λu w=>(QL u w).bind λb=>.ok (.bl (f b))
theorem cW:ez K Wb .S (gI id):=λA H x y u w z Q hx hy mu e q=>by
 obtain⟨b,e1,e2⟩:=R.bind_ok e;unfold QL at e1;split at e1
 ·cases e1;cases e2;rw[hx.int,hy.int];refine⟨rfl,?_⟩;rw[rP];exact q _ H (aO.refl _) (show Rp K H A _ _ from fA)
 ·cases e1;cases e2;rw[hx.bl,hy.bl];refine⟨rfl,?_⟩;rw[xq];exact q _ H (aO.refl _) (show Rp K H A _ _ from fA)
 ·cases e1;cases e2;rw[hx.str,hy.str];refine⟨rfl,?_⟩;rw[rQ];exact q _ H (aO.refl _) (show Rp K H A _ _ from fA)
 ·cases e1
theorem sf:ez K Wc .S (gI not):=λA H x y u w z Q hx hy mu e q=>by
 obtain⟨b,e1,e2⟩:=R.bind_ok e;unfold QL at e1;split at e1
 ·cases e1;cases e2;rw[hx.int,hy.int];refine⟨rfl,?_⟩;rw[rP];exact q _ H (aO.refl _) (show Rp K H A _ _ from fA)
 ·cases e1;cases e2;rw[hx.bl,hy.bl];refine⟨rfl,?_⟩;rw[xq];exact q _ H (aO.refl _) (show Rp K H A _ _ from fA)
 ·cases e1;cases e2;rw[hx.str,hy.str];refine⟨rfl,?_⟩;rw[rQ];exact q _ H (aO.refl _) (show Rp K H A _ _ from fA)
 ·cases e1
end L2
namespace HT
end HT
namespace L2
theorem QM (hu:X.A.units+64<î):iL X (ú .Lt) (PH X.K):=PJ (by lia)
def VD (f:List Int->List Int->Bool):U->U->R U:=λu w=>match u,w with
 | .tup xs,.tup ys=>match dP xs,dP ys with
  |some ns,J ms=>.ok (.bl (f ns ms))
  |_,_=>.stk
 |_,_=>.stk
theorem QN {f:List Int->List Int->Bool}:ez K (λx y H Q=>∃a b ns ms,x=.ref a/\y=.ref b/\fE K H a (ns.map V.int)/\fE K H b (ms.map V.int)/\Q (.bl (f ns ms)) H) .S (VD f):=λA H x y u w z Q hx hy mu e q=>by
 unfold VD at e;split at e
 ·rename_i xs ys;split at e
  ·rename_i ns ms h1 h2;cases e;unfold Pk at hx hy;obtain⟨a,vs,rfl,q1,l1,r1⟩:=hx;obtain⟨b,ws,rfl,q2,l2,r2⟩:=hy;rw[fT h1] at r1;rw[fT h2] at r2;rw[r1.toI] at q1;rw[r2.toI] at q2;exact⟨a,b,ns,ms,rfl,rfl,fE.of q1,fE.of q2,q _ H (aO.refl _) (show Rp K H A _ _ from fA)⟩
  ·cases e
 ·cases e
def Jr:U->U->R U:=VD HT.lexLt
def Mh:ez K (PH K) .S Jr:=QN
end L2
namespace L2
noncomputable def Aj:List U->Option (List Str)
 | []=>J []
 | .str x::us=>(Aj us).map (x::·)
 |_::_=>Z
theorem w_:∀{us:List U} {vs:List V} {ss:List Str},Aj us=J ss->ba K H A us vs->vs=ss.map V.str
 | [],vs,ss,e,r=>by
  cases e;unfold ba at r;subst r;rfl
 |u::us,vs,ss,e,r=>by
  cases u with
  |str x=>
   obtain⟨ts,h1,h2⟩:=Ζ.mp e;subst h2;obtain⟨y,q,rfl,z,t⟩:=r;have z:y=.str x:=z;rw[z,w_ h1 t];rfl
  |_=>cases e
theorem xa:∀{ss:List Str} {us:List F},bf (ss.map V.str) us->StrsAre us ss
 | [],us,r=>by cases r;exact .nil
 |x::ss,us,r=>by
  cases r with
  |cons a b=>obtain⟨t,rfl⟩:=a;exact .cons _ _ (xa b)
def Uj (K:Ê):V->List V->Hp->VK->Prop:=λx vs H Q=>∃yS a ss,x=.str yS/\vs=[.ref a]/\eI K H a (ss.map V.str)/\(ss.map (·.length)).sum+ss.length*yS.length<=16777216/\Q (.str (Txt.join yS ss)) H
section
variable {G:Gm}{e e2:É}{b1 b2:Bool}{m1:Md}{g1:Ev->R (U×Ev)}{ga:Ev->R (List U×Ev)}{cO dJ p0:Pos}
theorem Mj:KR X "str.join" (Uj X.K):=by
 intro pins s L H x vs v us Q I rx rv h;obtain⟨yS,a,ss,rfl,rfl,hl,hz,q⟩:=h;obtain⟨t,rfl⟩:=rx;obtain⟨u,rfl,ru⟩:=rv.one;cases ru;obtain⟨its,r,pl,_⟩:=I.list hl;refine join_list pl.isList (by simpa using xa r) hz λt' k=>?_;exact⟨.str _,H,I.tok _,⟨_,rfl⟩,q⟩
def jw (yS:Str):List U->R U:=λus=>match us with
 | [.lst ws]=>match Aj ws with
  |some ss=>if (ss.map (·.length)).sum+ss.length*yS.length<=16777216 then .ok (.str (Txt.join yS ss)) else .stk
  |none=>.stk
 |_=>.stk
theorem lV {yS:Str}{j}(ha:DA X G [e2] b2 Y ga)(lB:Ķ (.Constant (.str yS) j p0) "join" X.env (Ì (.Constant (.str yS) j p0) X.env)=Ì (.Constant (.str yS) j p0) X.env:=by rfl)
  (yM:((ã dJ (Ç [e2] X.env)).all (λx=> !x.1)&&(ĥ dJ (ģ [] X.env)).all (λx=>x.1.isSome)
   && decide ([e2].length+([]:List Ċ).length+(if ([]:List Ċ).isEmpty then 0 else 1)<30))=M:=by rfl)
  (lC:(cO.endLine==dJ.line)=M:=by rfl) (hs:Ç [e2] X.env=(Y,Ì e2 X.env)::Ç [] X.env:=by rfl) (vj:(ã dJ (Ç [] X.env)).any (·.1)=Y:=by rfl) :
  DE X G (.Call (.Attribute (.Constant (.str yS) j p0) "join" cO) [e2] [] dJ) b2 .S (dq (jw yS) ga):=⟨(GY aet PySem.F.slot_str_join PySem.F.type_str_join Mj xk ha.un lB yM lC hs vj).to λL H Q h00=>by
 obtain⟨Zq,A,B,q,f⟩:=h00;obtain⟨⟨us,B1⟩,e1,f⟩:=f.bind;obtain⟨z,e2,f⟩:=f.bind;refine⟨rfl,Zq,A,B,q,?_⟩;rw[e1];intro vs H1 q1 x1 s1 sJ;dsimp only at e2;unfold jw at e2;split at e2
 ·rename_i ws;split at e2
  ·rename_i ss ZW;split at e2
   ·rename_i hz;cases e2;obtain⟨y,r,rfl,yr,rr⟩:=sJ.rps;unfold ba at rr;subst rr;obtain⟨a,xs,rfl,_,ha,_,hr⟩:=yr;have hx:=w_ ZW hr;subst hx;exact⟨yS,a,ss,rfl,rfl,eI.of ha,hz,f _ H1 q1 x1 s1 (rS.ofS s9)⟩
   ·cases e2
  ·cases e2
 ·cases e2⟩
noncomputable def B_:List U->R U:=λus=>match us with
 | [.int n]=>if n.natAbs<1000000 then .ok (.str (toString n)) else .stk
 |_=>.stk
theorem Ak:eh X (.type "str") (λxs H Q=>∃n:Int,xs=[.int n]/\n.natAbs<1000000/\Q (.str (toString n)) H):=by
 intro pins s L H xs us Q I r h;obtain⟨n,rfl,hn,q⟩:=h;obtain⟨u,rfl,rx⟩:=gD r;obtain⟨t,rfl⟩:=rx;refine P.str_of_int ?_ ⟨.str _,H,I.tok _,⟨_,rfl⟩,q⟩;by_cases h0:n.natAbs=0
 ·rw[h0];decide
 ·exact (Nat.log2_lt h0).mpr (ć hn (ä (show 1000000<=2 ^ 20 by decide) (Ω (by decide) (by decide))))
theorem D_:mR K (λxs H Q=>∃n:Int,xs=[.int n]/\n.natAbs<1000000/\Q (.str (toString n)) H) .S B_:=λA H vs us z Q h mu e q=>by
 unfold B_ at e;split at e
 ·rename_i n;split at e
  ·rename_i hn;cases e;obtain⟨v,rfl,p⟩:=h.one;exact⟨n,by rw[p.int],hn,q _ H (aO.refl _) (show Rp K H A _ _ from s9)⟩
  ·cases e
 ·cases e
end
end L2
namespace L2
noncomputable def pW (B:Ev):List (Str ⊕ Nat)->Str->R Str
 | [],bH=>.ok bH
 | .inl s::ps,bH=>if (bH++s).length<=Â then pW B ps (bH++s) else .stk
 | .inr i::ps,bH=>match B[i]? with
  |some (J (.str y))=>if y.length<=Â/\(bH++y).length<=Â then pW B ps (bH++y) else .stk
  |_=>.stk
inductive DF (X:Cx)(G:Gm):List É->List (Str ⊕ Nat)->Prop
 |nil:DF X G [] []
 |c {s:Str} {j} {pos:Pos} {es:List É} {ps:List (Str ⊕ Nat)}:DF X G es ps->DF X G (.Constant (.str s) j pos::es) (.inl s::ps)
 |v {x:Str} {pos j5:Pos} {es:List É} {ps:List (Str ⊕ Nat)} (i:Nat) (h:DF X G es ps) (hN:X.N[i]? = J x:=by rfl) (hv:EK X.env.scope x:=by first|exact Or.inl rfl|exact Or.inr (Or.inl rfl)|exact Or.inr (Or.inr rfl)) (hd:(x==("__debug__":Str))=Y:=by decide)
  (iQ:(x==("__classdict__":Str))=Y:=by decide) (c:G.is i=Y:=by rfl):DF X G (.FormattedValue (.Name x pos) (-1) Z j5::es) (.inr i::ps)
section
variable {G:Gm}
theorem Js (q:c_ X.K G Zq A B L H){out:Str}{Q:Str->Ã->Prop}(hQ:∀s',aP X pins L H s'->Q out s'){ps:List (Str ⊕ Nat)}(h:DF X G es ps) :
  ∀{s:Ã} {bH:Str},aP X pins L H s->pW B ps bH=.ok out->Joins (Ä X.prog X.w) X.A X.xe (evalEach es X.env) bH Q s:=by
 induction h with
 |nil=>intro s bH I e;cases e;exact hQ s I
 |c _ ih=>
  intro s bH I e;unfold pW at e;split at e
  ·rename_i hz;exact cU (xk pins s L H (λv H'=>v=.str _/\H'=H) I ⟨rfl,rfl⟩) λu s1 h00=>by
    obtain⟨v,H1,I1,r,e1,e2⟩:=h00;subst e1 e2;obtain⟨t,rfl⟩:=r;exact⟨_,t,rfl,hz,ih I1 e⟩
  ·cases e
 |v i _ hN hv hd iQ c ih=>
  intro s bH I e;unfold pW at e;split at e
  ·rename_i y hy;split at e
   ·rename_i hz;obtain⟨w,h1,h2⟩:=q.slot i _ hy;rw[hU (by rw[c];exact ü)] at h2;have h2:w=.str y:=h2;subst h2;refine wpAny_FormattedValue_plain (cU (i5 hN hv hd iQ pins s L H (λv H'=>v=.str y/\H'=H) I ⟨_,h1,rfl,rfl⟩) λu s1 h00=>?_);obtain⟨v,H1,I1,r,e1,e2⟩:=h00;subst e1 e2;obtain⟨t,rfl⟩:=r;exact wpAny_formatField_str ⟨_,_,rfl,hz.2,ih I1 e⟩ ⟨_,_,rfl,hz.2,ih (I1.tok _) e⟩ hz.1
   ·cases e
  ·cases e
def gF (ps:List (Str ⊕ Nat)):Ev->R (U×Ev):=λB=>(pW B ps č).bind λx=>if x.length<=Â then .ok (.str x,B) else .stk
theorem sh {e1 e2:É}{ps:List (Str ⊕ Nat)}(h:DF X G (e1::e2::es) ps):DE X G (.JoinedStr (e1::e2::es) pos) Y .S (gF ps):=by
 refine⟨λpins s L H Q I h00=>?_⟩;obtain⟨Zq,A,B,q,f⟩:=h00;obtain⟨x,e,f⟩:=f.bind;split at f
 ·rename_i hz;refine wpAny_JoinedStr (Js q (λs' I'=>⟨hz,?_⟩) h I e);exact⟨.str x,H,I'.tok _,⟨_,rfl⟩,f _ H q eQ.refl (λ_=>⟨rfl,aO.refl _⟩) (rS.ofS s9)⟩
 ·exact f.elim
end
end L2
namespace L2
def Ox:R2:=λx y H Q=>∃a b,x=.str a/\y=.str b/\(a++b).length<=Â/\Q (.str (a++b)) H
noncomputable def fk:U->U->R U:=λu w=>match u,w with
 | .str a,.str b=>if (a++b).length<=Â then .ok (.str (a++b)) else .stk
 |_,_=>.stk
theorem d9:iL X (Ę .Add) Ox:=by
 intro pins s L H x y v u Q I rx ry h;obtain⟨a,b,rfl,rfl,hz,q⟩:=h;obtain⟨t,rfl⟩:=rx;obtain⟨t',rfl⟩:=ry;exact PyProof.Rows.add_str (λt' tk=>⟨.str _,H,I.tok _,⟨_,rfl⟩,q⟩) (by rw[<-strLen_append];exact hz)
theorem c9:ez K Ox .S fk:=λA H x y u w z Q hx hy mu e q=>by
 unfold fk at e;split at e
 ·rename_i a b;split at e
  ·rename_i hz;cases e;exact⟨a,b,hx.str,hy.str,hz,q _ H (aO.refl _) (show Rp K H A _ _ from s9)⟩
  ·cases e
 ·cases e
end L2
namespace L2
noncomputable def Yo (x:Str):It:=⟨λi _=>i<x.cps.size,λi H y H'=>H'=H/\∃c,x.cps[i]? = J c/\y=.str ⟨#[c]⟩,λi _=>x.cps.size<=i⟩
theorem Jt (x:Str)(t:Tok)(it:G):Br P w K tg (Yo x) [it] it (λi h=>h.IsStrIter it "str_ascii_iterator" x t i) where
 mem:=by simp
 obj:=λi h st b hb=>by
  have e:=by simpa using hb
  subst e;obtain⟨o,e,c,d⟩:=st;exact⟨o,e,λv z=>by rw[d] at z;cases z⟩
 keep:=λi h h' st k=>let ⟨o,ho,r⟩:=st;⟨o,k it (by simp) o ho,r⟩
 item:=by
  intro X hP hw hK hc i pins s L H E I hf st hg;subst hP hw hK;have hx:x.cps[i]? = J x.cps[i]:=ħ hg;obtain⟨f0,f1,f2,f3,f4,f5⟩:=hf it (by simp);refine wpAny_pyNext_ascii_item st hx λh' aV sb=>?_;have I1:=I.turned (t':=s.toks+1) (λb o hb e=>(sb.2 b hb).trans e) f0 f1 f3 f4 f5;obtain⟨o,e,c,d⟩:=id aV;exact⟨_,rfl,CN e c d (by decide) ⟨.str _,H,I1,⟨_,rfl⟩,⟨rfl,_,hx,rfl⟩,aV,λb hb=>(hf b hb).1⟩⟩
 done:=by
  intro X hP hw hK hc i pins s L H E I hf st hg;subst hP hw hK;obtain⟨f0,f1,f2,f3,f4,f5⟩:=hf it (by simp);exact wpAny_pyNext_ascii_end (I.ok.hd hc) st (aes hg) λh' eb=>⟨rfl,I.turned (λb o hb e=>eb b o hb e) f0 f1 f3 f4 f5⟩
 self:=λ_ _ _ _ _ st h=>wpAny_pyIter_striter_ascii st h
def WX (tl:TE):TI:=λL H R=>tl L H λv H1=>∃x,v=.str x/\x.cps.all (·<128)=M/\R (Yo x) H1
section
variable {G:Gm}{e l:É}{tl:TE}{b1:Bool}{m1:Md}{g1:Ev->R (U×Ev)}
theorem QO (hl:PE X l tl):PI X tg l (WX tl):=by
 intro pins s L H R I h;refine cU (hl pins s L H _ I h) λv s1 h00=>?_;obtain⟨x,H1,I1,r1,q1⟩:=h00;obtain⟨y,e,ha,q⟩:=q1;subst e;obtain⟨t,rfl⟩:=r1;refine wpAny_pyIter_ascii ha ?_;refine⟨s1.heap.objs.size,[s1.heap.objs.size],_,_,H1,rfl,I1.kept λb o e=>Ö _ e,Jt y t _,⟨_,æ _ rfl,rfl,rfl⟩,λb hb=>?_,q⟩;have e:=by simpa using hb
 subst e;exact I1.fpOk (Ð _) (I1.hok.fresh (Ð _))
noncomputable def x8 (x:Str):List U:=x.cps.toList.map λc=>.str ⟨#[c]⟩
def x9 (g:Ev->R (U×Ev)):Ev->R (List U×Ev):=λB=>(g B).bind λx=>match x.1 with
 | .str y=>if y.cps.all (·<128)=M/\y.length<=Â then .ok (x8 y,x.2) else .stk
 |_=>.stk
theorem Ju (h:DE X G e b1 m1 g1):DI X G tg e b1 Y (x9 g1):=⟨(QO h.un).to λL H RR h00=>by
 obtain⟨Zq,A,B,q,f⟩:=h00;unfold x9 at f;cases e1:g1 B with
 |stk=>rw[e1] at f;exact f.elim
 |exc=>rw[e1] at f;exact f.elim
 |ok y=>
  obtain⟨u,B1⟩:=y;rw[e1] at f;cases u with
  |str x=>
   by_cases hc:x.cps.all (·<128)=M/\x.length<=Â
   ·refine⟨Zq,A,B,q,?_⟩;rw[e1];intro v H1 q1 x1 s1 vm;simp only[R.bind] at f;rw[hV hc] at f;have l:(x8 x).length=x.cps.size:=by unfold x8;rw[Æ,í]
    refine⟨x,vm.pk.str,hc.1,f _ H1 q1 x1 s1 ⟨by rw[l];exact hc.2,λH' A' hs ha=>⟨λi u hu=>?_,by rw[l];exact Ð _⟩⟩⟩;unfold x8 at hu;rw[ă,Ζ] at hu;obtain⟨c,h1,rfl⟩:=hu;rw[Ĕ] at h1;refine⟨(Ū.mp h1).1,λy H2 yl=>?_⟩;obtain⟨rfl,c',h2,rfl⟩:=yl;rw[h1] at h2;cases h2;exact⟨aO.refl _,rfl⟩
   ·simp only[R.bind] at f;rw[hU hc] at f;exact f.elim
  |_=>exact f.elim⟩
end
end L2
namespace L2
structure vG (P:ø)(w:ß)(K:Ê)(mg:Str->Option F)(x:Str)(gU:List (md×V)):Prop where
 ex:∃a,mg x=J (.ref a)/\(a==sysModules)=Y/\∀h:Í,K.In h->∃vs,KV gU vs/\h.DictOf (iR P w) a vs
def QP (gU:List (md×V)):U->R U:=λu=>match u with
 | .str y=>.ok (.bl (vB gU (.inr y)).isSome)
 |_=>.stk
def QQ (gU:List (md×V)):U->R U:=λu=>match u with
 | .str y=>match vB gU (.inr y) with
  |some (.int i)=>.ok (.int i)
  |_=>.stk
 |_=>.stk
section
variable {G:Gm}{e:É}{b1:Bool}{m1:Md}{g1:Ev->R (U×Ev)}{p1:Pos}{gU:List (md×V)}
theorem Jv (hT:vG X.prog X.w X.K X.mg x gU)(hg:Gl X x)(h:DE X G e b1 m1 g1)(hd:(x==("__debug__":Str))=Y:=by decide)(hb:Ű .In (.Name x p1)=Y:=by rfl):DE X G (.Compare e [.In] [.Name x p1] pos) b1 .S (Tu (QP gU) g1):=by
 obtain⟨a,hm,hs,hK⟩:=hT.ex;refine⟨λpins s L H Q I h00=>?_⟩;obtain⟨Zq,A,B,q,f⟩:=h00;obtain⟨⟨u,B1⟩,e1,f⟩:=f.bind;obtain⟨z,e2,f⟩:=f.bind;refine wpAny_Compare1 (cU (h.un pins s L H (λv H1=>∃y,v=.str y/\Q (.bl (vB gU (.inr y)).isSome) H1) I ⟨Zq,A,B,q,?_⟩) λv s1 ⟨w,H1,I1,r1,y,ey,q1⟩=>?_) hb
 ·rw[e1];intro v H1 q1 x1 s1 vm;dsimp only at e2;unfold QP at e2;cases u with
  |str y=>
   cases e2;exact⟨y,vm.pk.str,f _ H1 q1 x1 s1 (rS.ofS fA)⟩
  |_=>cases e2
 ·subst ey;obtain⟨vs,rel,dd⟩:=hK _ I1.kIn;refine lG I1 hg hm ?_ hd;refine wpAny_in_of (Nm (k:=.inr y) r1) hs dd.mapOf ?_;rw[<-(rel.val _).isSome_eq];exact⟨.bl _,H1,I1.tok _,rfl,q1⟩
theorem QR (hT:vG X.prog X.w X.K X.mg x gU)(hg:Gl X x)(h:DE X G e b1 m1 g1)(hs:Tf e)(hd:(x==("__debug__":Str))=Y:=by decide):DE X G (.Subscript (.Name x p1) e pos) b1 .S (Tu (QQ gU) g1):=by
 obtain⟨a,hm,hy,hK⟩:=hT.ex;refine⟨λpins s L H Q I h00=>?_⟩;obtain⟨Zq,A,B,q,f⟩:=h00;obtain⟨⟨u,B1⟩,e1,f⟩:=f.bind;obtain⟨z,e2,f⟩:=f.bind;refine Lu PySem.F.slot_dict_getitem.lookup hs (lG I hg hm ?_ hd);refine cU (h.un pins s L H (λv H1=>∃y i,v=.str y/\vB gU (.inr y)=J (.int i)/\Q (.int i) H1) I ⟨Zq,A,B,q,?_⟩) λv s1 ⟨w,H1,I1,r1,y,i,ey,hv,q1⟩=>?_
 ·rw[e1];intro v H1 q1 x1 s1 vm;dsimp only at e2;unfold QQ at e2;cases u with
  |str y=>
   dsimp only at e2;split at e2
   ·rename_i i hv;cases e2;exact⟨y,i,vm.pk.str,hv,f _ H1 q1 x1 s1 (rS.ofS dC)⟩
   ·cases e2
  |_=>cases e2
 ·subst ey;obtain⟨vs,rel,dd⟩:=hK _ I1.kIn;obtain⟨w',hw,rw'⟩:=o_.some_of (by rw[<-hv];exact rel.val _);exact⟨dd.typeIs,wpAny_getItem_of (Nm (k:=.inr y) r1) dd.mapOf hw ⟨.int i,H1,I1.tok _,rw',q1⟩⟩
end
end L2
namespace L2
open PySem.W
structure WY (K:Ê)(mg:Str->Option F)(c q:Str)(st:Ô)(fs:List Str):Prop where
 ex:∃(C f:G) (fd:ĭ),mg c=J (.ref C)/\Mk K C f/\CO K C fs/\rl K "__init__" q st f fd
end L2
section
set_option maxHeartbeats 400000
namespace L2
open PySem PySem.Spec PyProof.Rows PySem.W
structure WE (X:Cx)(e:É)(t:TE):Prop where
 un:PE X e t
structure WT (X:Cx)(e:É)(t:TT):Prop where
 un:PT X e t
structure WS (X:Cx)(s:Ô)(t:TS):Prop where
 un:PS X s t
structure yP (X:Cx)(s:List Ô)(t:TS):Prop where
 un:vy X s t
section
variable {G:Gm}{e e1 e2 o i v:É}{s:Ô}{ss:List Ô}{t u:TS}{t1 t2 td ty tv ta:TE}{f:Str}{b:Bool}{m:Md}{g:Ev->R (U×Ev)}{p cO q r d:Pos}
def bz:yP X [] vZ:=⟨CL⟩
def aA (h:WS X s t)(k:yP X ss u):yP X (s::ss) (pf t u):=⟨yW h.un k.un⟩
def wv (i:Nat)(hN:X.N[i]? = J x:=by rfl)(hv:EK X.env.scope x:=by first|exact Or.inl rfl|exact Or.inr (Or.inl rfl)|exact Or.inr (Or.inr rfl))(hd:(x==("__debug__":Str))=Y:=by decide)
  (iQ:(x==("__classdict__":Str))=Y:=by decide):WE X (.Name x pos) (mO i):=⟨i5 hN hv hd iQ⟩
def x_ (h:WE X e ta)(hb:Ķ e f X.env (Ì e X.env)=Ì e X.env:=by rfl):WE X (.Attribute e f pos) (S7 X.K ta f):=⟨Pw h.un hb⟩
def je {i:Nat}(hN:X.N.Nodup)(he:WE X e te)(hi:X.N[i]? = J x:=by rfl)(hx:CI X.env.scope x:=by first|exact Or.inl rfl|exact Or.inr rfl)(hs:Ĭ e (J (.Name x pos')) pos.line X.env=pure Y:=by rfl)(hf:X.fn x=M\/X.env.scope.names.lookup x=J .local:=by first|exact .inl rfl|exact .inr rfl|assumption) :
  WS X (.Assign [.Name x pos'] e pos) (yX te (qf i)):=⟨xm hN hi hx he.un hs hf⟩
def kT {a b:List Ô}(hc:WT X c tc)(ha:yP X a t)(hb:yP X b u):WS X (.If c a b pos) (SX tc t u):=⟨Ni hc.un ha.un hb.un⟩
def uC (hp:Μ (Ä X.prog X.w) X.A X.env X.xe)(hc:WT X c tc)(hb:yP X ss t):WS X (.While c ss [] pos) (xn tc t):=⟨yY hp hc.un hb.un⟩
def jQ {f:É}{ks:List Ċ}(he:WE X (.Call f es ks p) te):WS X (.Expr (.Call f es ks p) pos) (v7 te):=⟨CM he.un rfl⟩
def fo (he:WE X e te):WS X (.Return (J e) pos) (K9 te):=⟨xl he.un⟩
def pX {dJ:Pos}(ho:WE X o ta)(he:WE X e te)(lB:Ķ o "append" X.env (Ì o X.env)=Ì o X.env:=by rfl)
  (yM:((ã dJ (Ç [e] X.env)).all (λx=> !x.1)&&(ĥ dJ (ģ [] X.env)).all (λx=>x.1.isSome)
   && decide (([e]:List É).length+([]:List Ċ).length+(if ([]:List Ċ).isEmpty then 0 else 1)<30))=M:=by rfl)
  (lC:(cO.endLine==dJ.line)=M:=by rfl) (hs:Ç [e] X.env=(Y,Ì e X.env)::Ç [] X.env:=by rfl):WE X (.Call (.Attribute o "append" cO) [e] [] dJ) (Te X.K "list" nJ ta (dM te g7)):=
 ⟨GY Ε ad6 ad7 pA ho.un (df he.un gm hs) lB yM lC hs rfl⟩
def eC {j}:WE X (.Constant (.str x) j p) (tC (.str x)):=⟨xk⟩
end
end L2
end
section
set_option maxHeartbeats 400000
namespace L2
open PySem PySem.Spec PyProof.Rows PySem.W
mutual
noncomputable def gX:U->Bool
 | .non=>M
 | .bl _=>M
 | .int _=>M
 | .str _=>M
 | .tup us=>jR us
 |_=>Y
noncomputable def jR:List U->Bool
 | []=>M
 |u::us=>gX u&&jR us
end
section
variable {A':G->Prop}
mutual
theorem Rp.tu (e:∀b ys,H b=J (.tup ys)->H' b=J (.tup ys)):∀{u:U} {v:V},gX u=M->Rp K H A u v->Rp K H' A' u v
 | .non,v,_,h=>h
 | .bl _,v,_,h=>h
 | .int _,v,_,h=>h
 | .str _,v,_,h=>h
 | .tup us,v,t,h=>by
  obtain⟨a,xs,rfl,ha,l,r⟩:=h;exact⟨a,xs,rfl,e a xs ha,l,ba.tu e (by grind[gX]) r⟩
 | .lst _,v,t,h=>by unfold gX at t;cases t
 | .dct _ _,v,t,h=>by unfold gX at t;cases t
 | .scr _,v,t,h=>by unfold gX at t;cases t
 | .obj _ _,v,t,h=>by unfold gX at t;cases t
theorem ba.tu (e:∀b ys,H b=J (.tup ys)->H' b=J (.tup ys)):∀{us:List U} {vs:List V},jR us=M->ba K H A us vs->ba K H' A' us vs
 | [],vs,_,h=>h
 |u::us,vs,t,h=>by
  obtain⟨x,r,rfl,z,q⟩:=h;unfold jR at t;rw[é] at t;exact⟨x,r,rfl,Rp.tu e t.1 z,ba.tu e t.2 q⟩
end
end
structure WA (X:Cx)(es:List É)(t:TA):Prop where
 un:PA X es t
section
variable {e e1 e2 a b o:É}{s:Ô}{ss:List Ô}{t:TS}{t1 t2 ta tb:TE}{td:TT}{tl:TA}{f m:Str}{p cO q r d:Pos}
def bY:WA X [] g7:=⟨gm⟩
def bj (h:WE X e te)(g:WA X es tl)(hs:Ç (e::es) X.env=(Y,Ì e X.env)::Ç es X.env:=by rfl):WA X (e::es) (dM te tl):=⟨df h.un g.un hs⟩
def Uk (ha:WE X a ta)(hb:WE X b tb):WT X (.Compare a [.Lt] [b] pos) (v9 (Gg (xp λi j=>.bl (decide (i<j))) ta tb)):=⟨nH nG ha.un hb.un (aD _)⟩
def Ul (ha:WE X a ta)(hb:WE X b tb):WT X (.Compare a [.Gt] [b] pos) (v9 (Gg (xp λi j=>.bl (decide (j<i))) ta tb)):=⟨nH qg ha.un hb.un (aD _)⟩
def Am (ha:WE X a ta)(hb:WE X b tb):WT X (.Compare a [.NotEq] [b] pos) (v9 (Gg Wc ta tb)):=⟨nH yZ ha.un hb.un (aD _)⟩
def Ea (ha:WE X a ta)(hb:WE X b tb):WT X (.Compare a [.Eq] [b] pos) (v9 (Gg Wb ta tb)):=⟨nH fX ha.un hb.un (aD _)⟩
def uD (h:WT X a tc):WT X (.UnaryOp .Not a pos) (SS tc):=⟨Gx h.un⟩
def QS (ha:WT X a tc)(hb:WT X b td):WT X (.BoolOp .And [a,b] pos) (Pe tc td):=⟨PW.pt (Gw ha.un (CK hb.un))⟩
def iV {g:É}{ks:List Ċ}(h:WE X (.Call g es ks p) te):WT X (.Call g es ks p) (tB te):=⟨Gu h.un⟩
def Oy (hc:WT X c tc)(ha:WE X a ta)(hb:WE X b tb):WE X (.IfExp c a b pos) (X2 tc ta tb):=⟨yV hc.un ha.un hb.un⟩
def QT (hm:X.mg "len"=Z)(hg:Gl X "len")(h:WE X e te)(he:Ç [e] X.env=(Y,Ì e X.env)::Ç [] X.env:=by rfl):WE X (.Call (.Name "len" p) [e] [] pos) (PD (λxs H Q=>∃x n,xs=[x]/\Pt X.K x H n/\Q (.int n) H) (dM te g7)):=⟨jk bD hg hm cy (df h.un gm he) (by decide) (by decide) he rfl⟩
def uE (hm:X.mg "tuple"=Z)(hg:Gl X "tuple")(h:WE X e te)(he:Ç [e] X.env=(Y,Ì e X.env)::Ç [] X.env:=by rfl):WE X (.Call (.Name "tuple" p) [e] [] pos) (PD (λxs H Q=>∃p ys,xs=[.ref p]/\((eI X.K H p ys/\∀l,H l=Z->Q (.ref l) (cT H l (.tup ys)))\/(fE X.K H p ys/\Q (.ref p) H))) (dM te g7)):=⟨eP bS hg hm bN (df h.un gm he) (by decide) (by decide) he rfl⟩
def QU (ha:WE X a ta)(hb:WE X b tb)(hs:xw b:=by exact λ_ _=>rfl):WE X (.Subscript a b pos) (Gg (PL X.K) ta tb):=⟨Nl CV ha.un hb.un hs⟩
def uF {i:Int}{j}:WE X (.Constant (.int i) j p) (tC (.int i)):=⟨Bq⟩
def Jw (ha:WE X a ta)(hb:WE X b tb):WE X (.BinOp a .Add b pos) (Gg (xp λi j=>.int (i+j)) ta tb):=⟨GB GC ha.un hb.un⟩
def uG {j}(h:WA X es tl):WE X (.Tuple es j pos) (PB tl):=⟨GK h.un⟩
def Ca (h:WA X es tl):WE X (.List es pos) (Lj tl):=⟨GL h.un⟩
def xb (F:Fn X.prog X.w X.K X.mg X.base x k ps sp)(hr:cI k X.A)(h:WA X (e::es) tl)(hg:Gl X x:=by rfl)(vW:(x==("__debug__":Str))=Y:=by decide)(he:Ç (e::es) X.env=(Y,Ì e X.env)::Ç es X.env:=by rfl)(jh:(ã pos (Ç es X.env)).any (·.1)=Y:=by rfl):WE X (.Call (.Name x p) (e::es) [] pos) (GN sp [] E0 tl):=⟨sY F hr h.un hg vW he jh⟩
def Jx (ho:WE X o ta)(hv:WE X e te):WS X (.AugAssign (.Attribute o f d) .Add e pos) (xt X.K ta te Py f):=⟨ET ho.un hv.un Pz⟩
def uH:WS X s (λ_ _ _=>False):=⟨λ_ _ _ _ _ _ h=>h.elim⟩
end
structure RD (C a l:G)(ws:List Str)(i:Nat)(H:Hp):Prop where
 o:∃dx,H a=J (.ins C dx [("words",.ref l),("at",.int i)])
 w:H l=J (.lst (ws.map V.str))
 z:ws.length<1000000
def Bt (a:G)(H H':Hp):Prop:=∀b o,b≠a->H b=J o->H' b=J o
noncomputable def cm (ws:List Str)(i:Nat):Str:=(ws[i]?).getD ""
abbrev RR:=List V->List Str->Nat->U->Nat->Prop
def Um (K:Ê)(C:G)(n:Nat)(R:RR):Sp:=λvs H Q _=>∃a l ws i rs u j,vs=.ref a::rs/\rs.length=n/\RD C a l ws i H/\R rs ws i u j/\gX u=M/\∀v H',Bt a H H'->RD C a l ws j H'->(∀A,Rp K H' A u v)->Q v H'
structure RM (P:ø)(w:ß)(K:Ê)(mg:Str->Option F)(base:Í)(C:G)(m:Str)(k:Nat)(ps:List Str)(n:Nat)(R:RR):Prop where
 ex:∃f fd,nI K C m f/\jj K fd ps []/\fc P w K mg base kg k f fd ps (Um K C n R)
def RM.mono {P:ø}{w:ß}{K:Ê}{mg:Str->Option F}{base:Í}{C:G}{m:Str}{j k n:Nat}{ps:List Str}{R:RR}(Mq:RM P w K mg base C m j ps n R)(h:j<=k):RM P w K mg base C m k ps n R:=let ⟨f,fd,a,b,c⟩:=Mq.ex;⟨f,fd,a,b,c.mono h⟩
def tM (K:Ê)(C:G)(n:Nat)(R:RR)(tl:TA):TE:=λL H Q=>∃a l ws i,L[0]? = J (J (.ref a))/\RD C a l ws i H/\tl L H λrs H1=>Um K C n R (.ref a::(rs++[])) H1 Q E0
section
variable {e:É}{tl:TA}{m:Str}{p cO:Pos}{n:Nat}{R:RR}
theorem RD.ne {l:G}(r:RD C a l ws i H):l≠a:=λe=>by
 obtain⟨dx,ho⟩:=r.o;have:=r.w;lia
theorem rB (Mq:RM X.prog X.w X.K X.mg X.base C m k ps n R)(c:Bi X.K C)(hr:cI k X.A)(h:WA X (e::es) tl)(hn:(m==("words":Str)||m==("at":Str))=Y:=by decide)(h0:WE X (.Name x0 p) (mO 0):=by exact wv 0)(gE:Ç (e::es) X.env=(Y,Ì e X.env)::Ç es X.env:=by rfl)(jh:(ã pos (Ç es X.env)).any (·.1)=Y:=by rfl)(ht:Ì (.Call (.Attribute (.Name x0 p) m cO) (e::es) [] pos) X.env=(do
   let ov ←Ì (.Name x0 p) X.env
   standAt cO.atName
   let (f,first) ←ę [ov] (ŝ ov m pl)
   callWith pos f first (ã pos (Ç (e::es) X.env)) (ĥ pos (ģ [] X.env))):=by rfl) :
  WE X (.Call (.Attribute (.Name x0 p) m cO) (e::es) [] pos) (tM X.K C n R tl):=by
 obtain⟨f,fd,hm,hb,F⟩:=Mq.ex;refine⟨PE.to (CS h0.un c hm F hr hb .nil wo h.un gE jh ht) λL H Q h00=>?_⟩;obtain⟨a,l,ws,i,s0,r,h⟩:=h00;obtain⟨dx,ho⟩:=r.o;rw[Ĩ] at hn;refine⟨.ref a,s0,a,dx,_,rfl,ho,?_,?_⟩
 ·show ő m [("words",V.ref l),("at",V.int i)]=Z;rw[Ğ,hn.1,Ğ,hn.2];rfl
 ·exact h
theorem j_ (Mq:RM X.prog X.w X.K X.mg X.base C m k ps 0 R)(c:Bi X.K C)(hr:cI k X.A)(hn:(m==("words":Str)||m==("at":Str))=Y:=by decide)(h0:WE X (.Name x0 p) (mO 0):=by exact wv 0)(ht:Ì (.Call (.Attribute (.Name x0 p) m cO) [] [] pos) X.env=(do
   let ov ←Ì (.Name x0 p) X.env
   standAt cO.atName
   let (f,first) ←ę [ov] (ŝ ov m pl)
   callWith pos f first (ã pos (Ç [] X.env)) (ĥ pos (ģ [] X.env))):=by rfl) :
  WE X (.Call (.Attribute (.Name x0 p) m cO) [] [] pos) (tM X.K C 0 R g7):=by
 obtain⟨f,fd,hm,hb,F⟩:=Mq.ex;refine⟨PE.to (y3 h0.un c hm F hr hb .nil wo ht) λL H Q h00=>?_⟩;obtain⟨a,l,ws,i,s0,r,h⟩:=h00;obtain⟨dx,ho⟩:=r.o;rw[Ĩ] at hn;refine⟨.ref a,s0,a,dx,_,rfl,ho,?_,?_⟩
 ·show ő m [("words",V.ref l),("at",V.int i)]=Z;rw[Ğ,hn.1,Ğ,hn.2];rfl
 ·exact h
end
def ya {c:Bool}{p q:Prop}(h:c=M)(x:p):if c=M then p else q:=by rw[hV h];exact x
def jf {c:Bool}{p q:Prop}(h:c=Y)(x:q):if c=M then p else q:=by rw[hU (by rw[h];exact ü)];exact x
section
variable {l:G}{Q:VK}
def RD.keep (r:RD C a l ws i H)(s:aO H H'):RD C a l ws i H':=let ⟨dx,o⟩:=r.o;⟨⟨dx,s _ _ o⟩,s _ _ r.w,r.z⟩
def Bt.refl:Bt a H H:=λ_ _ _ h=>h
def Bt.trans (x:Bt a H H')(y:Bt a H' H2):Bt a H H2:=λb o n h=>y b o n (x b o n h)
theorem Bt.tup (x:Bt a H H')(r:RD C a l ws i H):∀b ys,H b=J (.tup ys)->H' b=J (.tup ys):=λb ys h=>x b _ (λe=>by
 obtain⟨dx,o⟩:=r.o;lia) h
theorem Eb {D:mN}(co:CO K C ["words","at"])(h0:L[0]? = J (J (.ref a)))(r:RD C a l ws i H)(q:∀H',Bt a H H'->RD C a l ws (i+1) H'->D.nx L H'):xt K (mO 0) (tC (.int 1)) Py "at" D L H:=by
 obtain⟨dx,o⟩:=r.o;refine⟨.ref a,h0,a,C,dx,_,.int i,rfl,o,co.cl,co.no _ (by simp),rfl,i,1,rfl,rfl,dx,_,o,(by show 2<1000;decide),q _ (λb x n h=>by rw[aL n];exact h) ⟨⟨dx,?_⟩,by rw[aL r.ne];exact r.w,r.z⟩⟩;rw[aW];rfl
end
end L2
end
section
set_option maxHeartbeats 400000
namespace L2
open PySem PySem.Spec PyProof.Rows
theorem Ml {A:Ñ}{globals:G}{n:Str}{v:F}{r:List (Str×F)}{func:Option G}{code:F}{builtins:G}{Q:Env->Ã->Prop}(hk:scope.kind=.function)(hn:scope.names.lookup n=J .local)(Bf:∀x∈(n,v)::r,scope.names.lookup x.1=J .local\/(scope.names.lookup x.1=J .cell/\((Ĥ (s.heap.objs.size+1) scope.names []).lookup x.1).isSome=M))(hQ:∀env,env=newEnv scope s.heap.objs.size globals (Ĥ (s.heap.objs.size+1) scope.names []) qual func code Z builtins->
   ∀s',InCallC s env.locals (bindL env.kindOf ((n,v)::r) λ_=>Z) env.cells (bindC env.kindOf ((n,v)::r) λ_=>Z) s'->0<s'.toks->Q env s') :
  Å Mq A (newFunctionEnv scope globals [] ((n,v)::r) qual func code Z builtins) Q E s:=by
 simp only[newFunctionEnv,Option.isSome_none,đ,if_false];refine À (wpAny_alloc ?_);refine À (wpAny_layCells _ (λname kind cells=>by rfl) _ _ _ _ ?_);have ok:=cellsFrom_ok scope.names (s.heap.push {cls:=.type "frame",data:=.dict #[]}) (s.heap.objs.size+1) [] ⟨λ_ _ hm=>(nomatch hm),List.Pairwise.nil⟩ (by simp);rw[Đ] at ok;rw[show ({s with heap:=s.heap.push {cls:=.type "frame",data:=.dict #[]}}:Ã).heap.objs.size=s.heap.objs.size+1 from Đ ..];have x0:InCallC s (newEnv scope s.heap.objs.size globals (Ĥ (s.heap.objs.size+1) scope.names []) qual func code Z builtins).locals (λ_=>Z) (newEnv scope s.heap.objs.size globals (Ĥ (s.heap.objs.size+1) scope.names []) qual func code Z builtins).cells (λ_=>Z) {s with heap:=pushCells (s.heap.push {cls:=.type "frame",data:=.dict #[]}) scope.names}:=
  ⟨⟨⟨_,_,rfl⟩,(Heap.Ns.new s.heap (.type "frame")).keeps (pushCells_keeps _ _),λb o e=>pushCells_keeps _ _ b o (Ö _ e),Ð _⟩,
   λn c hc=>(ok.empty n c (mem_of_lookup hc)).1,ok.apart,λn c hm=>(ok.empty n c hm).2⟩
 rw[Ϩ];refine À (À (À (wpAny_storeName_local (env:=newEnv scope s.heap.objs.size globals (Ĥ (s.heap.objs.size+1) scope.names []) qual func code Z builtins) hn x0.toInCall.ns (λh' O1 mK=>Ë ?_) (by rw[show (newEnv scope s.heap.objs.size globals (Ĥ (s.heap.objs.size+1) scope.names []) qual func code Z builtins).scope.kind=.function from hk];rfl))));refine wpAny_with_toks (n:=1) (show 1<=_+1 from Nat.le_add_left _ _) ?_;refine wpAny_bindParams (s₀:=s) (env:=newEnv scope s.heap.objs.size globals (Ĥ (s.heap.objs.size+1) scope.names []) qual func code Z builtins)
  _ (λ_ _ _=>rfl) hk r _ (λ_=>Z) _ _ ⟨⟨?_,O1,λb o e=>?_,x0.toInCall.fresh⟩,λk c hc=>?_,x0.apart,x0.above⟩
  (λy hy=>Bf y (Ý _ hy)) λs' x ht=>Ë (hQ _ rfl s' ?_ ht)
 ·lia
 ·exact mK.extBut b o (è (ć (Û e) x0.toInCall.fresh)) (x0.toInCall.keep b o e)
 ·exact (x0.cell k c hc).sameBut mK (Ŕ (x0.above k c (mem_of_lookup hc)))
 ·unfold bindL bindC;rw[hV (show (newEnv scope s.heap.objs.size globals (Ĥ (s.heap.objs.size+1) scope.names []) qual func code Z builtins).kindOf n=J .local from hn),hV (show (newEnv scope s.heap.objs.size globals (Ĥ (s.heap.objs.size+1) scope.names []) qual func code Z builtins).kindOf n=J .local from hn)];exact x
def Y_ (X:Cx)(e:É)(t:TE):Prop:=∀(pins:List (G×Obj)) (s:Ã) (L:St) (H:Hp) (Q:VK),aP X pins L H s->0<s.toks->t L H Q->Å (Ä X.prog X.w) X.A (Ì e X.env) (EP X pins L Q) X.xe s
def Jy (X:Cx)(ss:List Ô)(t:TS):Prop:=∀(pins:List (G×Obj)) (s:Ã) (L:St) (H:Hp) (D:mN),aP X pins L H s->0<s.toks->t D L H->Å (Ä X.prog X.w) X.A (execs ss X.env) (SP X pins D) X.xe s
structure SA (X:Cx)(e:É)(t:TE):Prop where
 un:Y_ X e t
structure QV (X:Cx)(ss:List Ô)(t:TS):Prop where
 un:Jy X ss t
def Uo (y z:Str)(t:TE):TE:=λL H Q=>t L H λv H1=>∃x,v=.str x/\x.length<=1048576/\Q (.str (η x y z)) H1
def Jz:V->List V->Hp->VK->Prop:=λx vs H Q=>∃y,x=.str y/\vs=[]/\y.length<=Â/\(ϸ y (y.length+1)).length<=Â/\∀D,H D=Z->Q (.ref D) (cT H D (.lst ((Txt.words y).map V.str)))
theorem xc:∀{ws:List Str} {tk:Nat},bf (ws.map V.str) (strsFrom tk ws)
 | [],_=>.nil
 |_::_,_=>.cons ⟨_,rfl⟩ xc
section
variable {o e:É}{to:TE}{t u:TS}{rest:List Ô}{cO dJ p1:Pos}{f:Str}
def QW (h:WE X e te):SA X e te:=⟨λpins s L H Q I _ q=>h.un pins s L H Q I q⟩
theorem An {z:Str}{j1 j2}(ho:SA X o to)(ZX:(y==z)=Y:=by decide+kernel)(hz:z.length<=14:=by decide+kernel)(lB:Ķ o "replace" X.env (Ì o X.env)=Ì o X.env:=by rfl)(yM:((ã dJ (Ç [.Constant (.str y) j1 p1,.Constant (.str z) j2 p2] X.env)).all (λx=> !x.1)&&(ĥ dJ (ģ [] X.env)).all (λx=>x.1.isSome)
   && decide (([.Constant (.str y) j1 p1,.Constant (.str z) j2 p2]:List É).length+([]:List Ċ).length+(if ([]:List Ċ).isEmpty then 0 else 1)<30))=M:=by rfl)(lC:(cO.endLine==dJ.line)=M:=by rfl):SA X (.Call (.Attribute o "replace" cO) [.Constant (.str y) j1 p1,.Constant (.str z) j2 p2] [] dJ) (Uo y z to):=by
 refine⟨λpins s L H Q I ht h=>?_⟩;refine wpAny_Call_method_late lB yM lC rfl (wpAny_with_toks (n:=1) ht (ù (ho.un pins s L H _ I ht h) (λv s1 ⟨x,H1,I1,r1,q1⟩ SN=>?_) λ_ _ x _=>x));obtain⟨x',rfl,hx,q⟩:=q1;obtain⟨tk,rfl⟩:=r1;refine⟨"str",_,aet,PySem.F.slot_str_replace,PySem.F.type_str_replace,typeIs_str _ _ _,(λ_ e=>nomatch e),?_⟩;refine aer rfl (Calls.evalArgs_plain ?_);refine afj (aff (k:=j1) (pos:=p1) ?_);refine afj (aff (k:=j2) (pos:=p2) ?_);refine Calls.spliced_nil ?_;refine SC.replaceW (by lia) (by lia) (by lia) ZX hx hz λt' k=>?_;exact⟨.str _,H1,I1.tok _,⟨_,rfl⟩,q⟩
theorem JA:KR X "str.split" Jz:=by
 intro pins s L H x vs v us Q I rx rv h;obtain⟨y,rfl,rfl,hx,hn,q⟩:=h;obtain⟨t,rfl⟩:=rx;cases rv;refine call_meets PySem.F.slot_str_split (typeIs_str _ _ _) PySem.F.entry_str_split (PySem.F.args_str_split_1 _) (meets_str_split_space y t hx hn) ?_;have q:=q _ (I.hok.fresh (Ð _));cases hw:ϸ y (y.length+1)==[(0,y.length)]
 ·simp only[đ,if_false];have e:Txt.words y=wordsOf y:=hU (by rw[hw];exact ü);rw[e] at q;refine⟨.ref _,_,I.laid (o:=.lst ((wordsOf y).map V.str)) (λb u q=>Ö _ q) (Ð _) ⟨?_,_,_,xc,æ _ rfl⟩,rfl,q⟩;unfold wordsOf;rw[Æ,Æ];exact hn
 ·simp only[if_true];have e:Txt.words y=[y]:=hV hw;rw[e] at q;exact⟨.ref _,_,I.laid (o:=.lst ([y].map V.str)) (λb u q=>Ö _ q) (Ð _) ⟨(show 1<=Â by decide),[.str y t],_,.cons ⟨_,rfl⟩ .nil,æ _ rfl⟩,rfl,q⟩
theorem FI (ho:SA X o to)(lB:Ķ o "split" X.env (Ì o X.env)=Ì o X.env:=by rfl)(lC:(cO.endLine==dJ.line)=M:=by rfl):SA X (.Call (.Attribute o "split" cO) [] [] dJ) (Wf X.K "str" Jz to):=by
 refine⟨λpins s L H Q I ht h=>?_⟩;refine wpAny_Call_method0_late lB lC (cU (ho.un pins s L H _ I ht h) λv s1 h00=>?_);obtain⟨x,H1,I1,r1,ty,q1⟩:=h00;obtain⟨h1,h2⟩:=GX I1 r1 ty;exact⟨"str",_,aet,PySem.F.slot_str_split,PySem.F.type_str_split,h1,h2,aer rfl (PySem.evalArgs_none (JA pins s1 L H1 x [] v [] Q I1 r1 .nil q1))⟩
structure Yq (X:Cx)(st:Ô)(t:TS):Prop where
 un:∀(pins:List (G×Obj)) (s:Ã) (L:St) (H:Hp) (D:mN),aP X pins L H s->0<s.toks->t D L H->Å (Ä X.prog X.w) X.A (exec st X.env) (SP X pins D) X.xe s
theorem Mm {tv:TE}{p3:Pos}{g:É}{ks:List Ċ}(h0:WE X o to)(hv:SA X (.Call g es ks p3) tv)(hs:Ĭ (.Call g es ks p3) (J (.Attribute o f p1)) p2.line X.env=pure Y:=by rfl):Yq X (.Assign [.Attribute o f p1] (.Call g es ks p3) p2) (Pu X.K to tv f):=by
 refine⟨λpins s L H D I ht h=>?_⟩;refine aew (cU (hv.un pins s L H _ I ht h) λu s1 ⟨y,H1,I1,ry,q⟩=>cU (h0.un pins s1 L H1 _ I1 q) λov s2 h00=>?_) hs;obtain⟨x,H2,I2,rx,a,C,dx,fs,ex,ea,c,n,l,q2⟩:=h00;subst ex;obtain rfl:ov=Value.ref a:=rx;exact mP I2 ea c n l ry λs3 I3=>⟨L,_,I3,q2⟩
theorem JB (h1:Yq X st t)(h2:yP X rest u):QV X (st::rest) (pf t u):=by
 refine⟨λpins s L H D I ht h=>?_⟩;refine wpAny_execs_cons (cU (h1.un pins s L H _ I ht h) λf s1 q=>?_);cases f with
 |next=>
  obtain⟨L',H',I',q⟩:=q;exact h2.un pins s1 L' H' D I' q
 |ret v=>exact q
 |brk=>exact q
 |cont=>exact q
def Jy.nox {ss:List Ô}(h:Jy X.nox ss t):Jy X ss t:=λpins s L H D I ht hw=>
 ù (h pins s L H D (I.wish _) ht hw) (λ_ _ q=>q.unwish) λ_ _ z=>Ė z
end
theorem QX {base:Í}{name:Str}{params:Arguments}{dV kV ku pm bT ct oc:F}(lk:K.lookup f=J ⟨oc,od,.func (Ĉ name qual params body scope dV kV ku pm an bT ct),osl⟩)(iQ:ż K bT qual=M)(S:az N (x0::ps) scope)(hx:scope.names.lookup x0=J .local)(len:∀vs H Q E,sp vs H Q E->vs.length=(x0::ps).length)(dZ:∀(A:Ñ) (outer:List Env) (s:Ã) (H:Hp) (vs:List V) (Q:VK) (E:XK),cI k (A.deeper (Ć qual scope s.heap.objs.size f bT))->sp vs H Q E->
   ∃t,Jy (eZ CX P w K mg base N qual scope f bT A outer s H E) body t/\t {nx:=λ_ H'=>Q .non H',rt:=Q} (ô N vs) H) :
  fc P w K mg base CX (k+1) f (Ĉ name qual params body scope dV kV ku pm an bT ct) (x0::ps) sp:=by
 refine⟨len,λA outer s H args us vs Q E hr e0 hb r Gd=>?_⟩;have hl:=len _ _ _ _ Gd;have KX:=e0.mod.kin.keeps λb o e=>(e0.bs b o e).1;have Xi:=e0.mod.nolimit.keeps λb o e=>(e0.bs b o e).1;have Bf:∀y∈(x0::ps).zip us,scope.names.lookup y.1=J _\/(scope.names.lookup y.1=J _/\((Ĥ (s.heap.objs.size+1) _ []).lookup y.1).isSome=M):=fun⟨n,v⟩ hy=>by
  rcases S.par n (σ hy).1 with q|q
  ·exact .inl q
  ·exact .inr ⟨q,aep _ _ _ (.inl q)⟩
 refine codeAny_call_function hr.depth (KX _ _ lk) rfl S.co S.gen rfl (PySem.W.codeRec_of KX iQ) (hb _ _ _ _ ?_);cases us with
 |nil=>rw[r.length] at hl;cases hl
 |cons u0 us=>
 refine Ml S.kind hx Bf λenv he s1 x ht=>?_;subst he;refine⟨Xi.keeps x.toInCall.keep,codeAny_func ?_⟩;obtain⟨t,h,hq⟩:=dZ A _ s H vs Q E (hr.deeper _) Gd;have I:aP (eZ CX P w K mg base N qual _ f bT A _ s H E) [] _ H s1:=wj S hr.hd e0 hl r x;refine ù (h [] s1 _ H _ I ht hq) (λfl s' hs=>?_) λe s' hs=>hs;have fin:∀{L':St} {H':Hp} {v:V} {u:F},aP (eZ CX P w K mg base N qual scope f bT A _ s H E) [] L' H' s'->bE v u->Q v H'->CE outer P w H s Q u s' :=
  λ{L' H' v u} Jq rv q=>⟨v,H',Jq.os,Jq.bare,Jq.base,Jq.hok,rv,q⟩
 cases fl with
 |ret u=>
  obtain⟨v,L',H',Jq,rv,q⟩:=hs;exact fin Jq rv q
 |next=>
  obtain⟨L',H',Jq,q⟩:=hs;exact fin (v:=V.non) Jq rfl q
 |brk=>
  obtain⟨_,_,_,q⟩:=hs;exact Ė q
 |cont=>
  obtain⟨_,_,_,q⟩:=hs;exact Ė q
section
variable {base:Í}
theorem rl.okT (F:rl K x qual st f fd)(S:az N (x0::ps) (ag st))(hx:(ag st).names.lookup x0=J .local)(len:∀vs H Q E,sp vs H Q E->vs.length=(x0::ps).length)(dZ:∀(bT:ò) (A:Ñ) (outer:List Env) (s:Ã) (H:Hp) (vs:List V) (Q:VK) (E:XK),cI k (A.deeper (Ć qual (ag st) s.heap.objs.size f bT))->sp vs H Q E->
   ∃t,QV (eZ kg P w K mg base N qual (ag st) f bT A outer s H E).nox (aU st) t/\t {nx:=λ_ H'=>Q .non H',rt:=Q} (ô N vs) H):fc P w K mg base kg (k+1) f fd (x0::ps) sp:=by
 obtain⟨oc,od,kV,ku,pm,an,bT,ct,osl,rfl,lk,iQ⟩:=F.ex;refine QX lk iQ S hx len λA outer s H vs Q E hr Gd=>?_;obtain⟨t,h,q⟩:=dZ bT A _ s H vs Q E hr Gd;exact⟨t,h.un.nox,q⟩
end
end L2
end
section
set_option maxHeartbeats 400000
namespace Hc
open PySem L2
noncomputable def Cb:List (md×V):=[(.inr "0",.int 0),(.inr "1",.int 1),(.inr "2",.int 2),(.inr "3",.int 3),(.inr "4",.int 4),(.inr "5",.int 5),(.inr "6",.int 6),(.inr "7",.int 7),(.inr "8",.int 8),(.inr "9",.int 9)]
def Oz:Ev->SR:=bb (kE (aI Gi (dq dI (ae (af 0) ao)) (gC (.int 0))) (dq l8 (ae (dH (x9 (af 0)) [Z] (cx 0) bK (Tu (QP Cb) (af 0))) ao)))
def uJ:List U->R U:=cR .S 1 Oz
def JC:Ev->SR:=aG (bL 1 (gC (.int 0))) (aG (vE (x9 (af 0)) (cx 2) (bL 1 (aI de (aI kI (gC (.int 10)) (af 1)) (Tu (QQ Cb) (af 2))))) (bb (af 1)))
def Cc:List U->R U:=cR .S 3 JC
noncomputable def dg (n:Int):Str:=((toString n:String):Str)
def Bl:RR:=λ_ ws i u j=>∃ns:List Int,(∀n∈ns,0<=n/\n<=9)/\ns.length<1000/\(∀(k:Nat) (n:Int),ns[k]? = J n->cm ws (i+k)=dg n)/\uJ [.str (cm ws (i+ns.length))]=.ok (.bl Y)/\u=au ns/\j=i+ns.length
inductive Bm (ws:List Str)(x:Str)(I:Nat->U->Nat->Prop):Nat->List U->Nat->Prop
 |one {i:Nat} {u:U} {j:Nat}:I i u j->cm ws j≠x->Bm ws x I i [u] j
 |more {i:Nat} {u:U} {j1:Nat} {us:List U} {j:Nat}:I i u j1->cm ws j1=x->Bm ws x I (j1+1) us j->Bm ws x I i (u::us) j
def Up:RR:=λ_ ws i u j=>∃us,Bm ws "/" (λi u j=>Bl [] ws i u j/\gX u=M) i us j/\us.length<1000/\u=.tup us
def QY (RP:RR):RR:=λrs ws i u j=>∃d v j1 p,rs=[.int d]/\Bl [] ws i v j1/\gX v=M/\cm ws j1=":"/\RP [.int d] ws (j1+1) p j/\gX p=M/\u=.tup [v,p]
def VE (RP:RR):RR:=λrs ws i u j=>∃d us j2,rs=[.int d]/\cm ws i="("/\Bm ws ";" (λi u j=>QY RP [.int d] ws i u j/\gX u=M) (i+1) us j2/\us.length<1000/\cm ws j2=")"/\j=j2+1/\u=.tup us
def Gn:Nat->RR
 |0=>λ_ _ _ _ _=>False
 |n+1=>λrs ws i u j=>∃d:Int,rs=[.int d]/\d<=12/\
   ((cm ws i="again"/\u=.tup [.str "again"]/\j=i+1) \/
   (cm ws i="end"/\∃v,Bl [] ws (i+1) v j/\gX v=M/\u=.tup [.str "end",v]) \/
   (cm ws i="look"/\∃v j1 p,Bl [] ws (i+1) v j1/\gX v=M/\VE (Gn n) [.int (d+1)] ws j1 p j/\gX p=M/\u=.tup [.str "look",v,p]) \/
   ((cm ws i="lay"\/cm ws i="mix")/\∃v j1 p,(if cm ws i="lay" then Bl [] ws (i+1) v j1 else Up [] ws (i+1) v j1)/\gX v=M/\cm ws j1=":"/\Gn n [.int (d+1)] ws (j1+1) p j/\gX p=M/\u=.tup [.str (cm ws i),v,p]))
noncomputable def OA (x:Str):Str:=η x "(" " ( "
def Ec (x:Str):Str:=η (OA x) ")" " ) "
def my (x:Str):List Str:=Txt.words (Ec x)
structure Mqz (x:Str):Prop where
 l0:x.length<=1048576
 l1:(OA x).length<=1048576
 l2:(Ec x).length<=Â
 l3:(ϸ (Ec x) ((Ec x).length+1)).length<=Â
 l4:(my x).length<1000000
def WZ (x:Str)(u:U):Prop:=Mqz x/\(∃j,Gn 5 [.int 1] (my x) 0 u j)/\gX u=M
def W0 (x:Str)(u:U):Prop:=Mqz x/\(∃j,Bl [] (my x) 0 u j)/\gX u=M
end Hc
end
noncomputable section
namespace Hc
open PySem L2
noncomputable abbrev Cd:Gm:=⟨[Y],Y,λ_=>False⟩
def nj:Ev->SR:=(bb (kE (f6 "int" (af 0)) (LH (f6 "bool" (af 0)))))
def dQ:List U->R U:=cR .S 1 nj
noncomputable abbrev FJ:Gm:=⟨[Y],Y,λ_=>False⟩
def lW:Ev->SR:=(bb (kE (dz 1 dQ (ae (af 0) ao)) (jG KW KW (gC (.int 0)) (af 0) (gC (.int 9)))))
def eU:List U->R U:=cR .S 1 lW
noncomputable abbrev JD:Gm:=⟨[Y],Y,λ_=>False⟩
def uK:Ev->SR:=(aG (fz (ze (jq (gB (f6 "tuple" (af 0)))) (jq (gB (jG KW KW (gC (.int 1)) (dq dI (ae (af 0) ao)) (gC (.int 8)))))) (bb (gC (.bl Y))) bg)
 (bb (dq l8 (ae (dH (d6 (af 0)) [Z] (cx 0) bK (dz 1 eU (ae (af 0) ao))) ao))))
def f9:List U->R U:=cR .S 1 uK
noncomputable abbrev Ce:Gm:=⟨[Y,Y],Y,λ_=>False⟩
def jS:Ev->SR:=(aG (fz (jq (gB (f6 "tuple" (af 0)))) (bb (gC (.bl Y))) bg)
 (bb (kE (dq l8 (ae (dH (d6 (af 0)) [Z] (cx 0) bK (dz 1 dQ (ae (af 0) ao))) ao)) (aI (lP id) (dq tP (ae (af 0) ao)) (Dg (ae (af 1) ao))))))
def dR:List U->R U:=cR .S 2 jS
noncomputable abbrev yb:Gm:=⟨[Y,Y],Y,λ_=>False⟩
def fq:Ev->SR:=(aG (fz (ze (jq (gB (f6 "tuple" (af 0)))) (jq (gB (jG KW KW (gC (.int 1)) (dq dI (ae (af 0) ao)) (gC (.int 24)))))) (bb (gC (.bl Y))) bg)
 (bb (dq l8 (ae (dH (d6 (af 0)) [Z,J 1] (cx 0) bK (dz 2 dR (ae (af 0) (ae (af 1) ao)))) ao))))
def dj:List U->R U:=cR .S 2 fq
noncomputable abbrev yc:Gm:=⟨[Y,Y],Y,λ_=>False⟩
def fu:Ev->SR:=(aG (fz (ze (jq (gB (f6 "tuple" (af 0)))) (gB (aI (lP id) (dq dI (ae (af 0) ao)) (gC (.int 0))))) (bb (gC (.bl Y))) bg)
 (aG (fz (jq (gB (dq l8 (ae (dH (d6 (af 0)) [Z,J 1] (cx 0) bK (kE (dz 1 dQ (ae (af 0) ao)) (jG KW Hz (gC (.int 0)) (af 0) (af 1)))) ao)))) (bb (gC (.bl Y))) bg)
 (bb (aI (lP id) (dq lS (ae (af 0) ao)) (dq dI (ae (af 0) ao))))))
def cA:List U->R U:=cR .S 2 fu
noncomputable abbrev JE:Gm:=⟨[Y,Y,Y],Y,λ_=>False⟩
def kW:Ev->SR:=(aG (fz (ze (jq (gB (f6 "tuple" (af 0)))) (gB (aI (gI not) (dq dI (ae (af 0) ao)) (gC (.int 2))))) (bb (gC (.bl Y))) bg)
 (aG (bL 2 (aI c7 (af 0) (gC (.int 0))))
 (bb (kE (f6 "tuple" (af 2)) (kE (aI (lP id) (dq dI (ae (af 2) ao)) (af 1)) (dq l8 (ae (dH (d6 (af 2)) [Z] (cx 0) bK (dz 1 eU (ae (af 0) ao))) ao)))))))
def iB:List U->R U:=cR .S 3 kW
noncomputable abbrev Cf:Gm:=⟨[Y,Y],Y,λ_=>False⟩
def iC:Ev->SR:=(aG (fz (ze (jq (gB (f6 "tuple" (af 0)))) (gB (aI (lP id) (dq dI (ae (af 0) ao)) (gC (.int 0))))) (bb (gC (.bl Y))) bg)
 (aG (fz (jq (gB (dq l8 (ae (dH (d6 (af 0)) [Z,J 1] (cx 0) bK (dz 2 iB (ae (af 0) (ae (af 1) ao)))) ao)))) (bb (gC (.bl Y))) bg)
 (bb (dq l8 (ae (dH (L3 (ae (af 0) (ae (qm n_ (af 0) (cV (gC (.int 1))) dw) ao))) [Z,Z] (tm 2 (gr (cx 0) (gr (cx 1) wu))) bK (aI Jr (aI c7 (af 0) (gC (.int 0))) (aI c7 (af 1) (gC (.int 0))))) ao)))))
def eM:List U->R U:=cR .S 2 iC
noncomputable abbrev Cg:Gm:=⟨[Y,Y],Y,λ_=>False⟩
def nk:Ev->SR:=(aG (fz (ze (jq (gB (f6 "tuple" (af 0)))) (gB (aI (lP id) (dq dI (ae (af 0) ao)) (gC (.int 0))))) (bb (gC (.bl Y))) bg)
 (aG (fz (gB (aI (lP id) (aI c7 (af 0) (gC (.int 0))) (gC (.str "again")))) (bb (aI (lP id) (dq dI (ae (af 0) ao)) (gC (.int 1)))) bg)
 (aG (fz (gB (aI (lP id) (aI c7 (af 0) (gC (.int 0))) (gC (.str "end")))) (bb (kE (aI (lP id) (dq dI (ae (af 0) ao)) (gC (.int 2))) (dz 2 cA (ae (aI c7 (af 0) (gC (.int 1))) (ae (af 1) ao))))) bg)
 (aG (fz (gB (aI (gI not) (dq dI (ae (af 0) ao)) (gC (.int 3)))) (bb (gC (.bl Y))) bg)
 (aG (fz (gB (aI (lP id) (aI c7 (af 0) (gC (.int 0))) (gC (.str "lay")))) (bb (dz 2 dR (ae (aI c7 (af 0) (gC (.int 1))) (ae (af 1) ao)))) bg)
 (aG (fz (gB (aI (lP id) (aI c7 (af 0) (gC (.int 0))) (gC (.str "mix")))) (bb (dz 2 dj (ae (aI c7 (af 0) (gC (.int 1))) (ae (af 1) ao)))) bg)
 (bb (kE (aI (lP id) (aI c7 (af 0) (gC (.int 0))) (gC (.str "look"))) (kE (dz 2 cA (ae (aI c7 (af 0) (gC (.int 1))) (ae (af 1) ao))) (dz 2 eM (ae (aI c7 (af 0) (gC (.int 2))) (ae (dq dI (ae (aI c7 (af 0) (gC (.int 1))) ao)) ao))))))))))))
def bG:List U->R U:=cR .S 2 nk
noncomputable abbrev uL:Gm:=⟨[Y,M,Y],Y,λ_=>False⟩
def gy:Ev->SR:=(fz (ze (gB (aI (lP id) (aI c7 (af 2) (gC (.int 0))) (gC (.str "lay")))) (gB (aI (lP id) (aI c7 (af 2) (gC (.int 0))) (gC (.str "mix"))))) (j7 (gM "list" 1 lQ (ae (aI c7 (af 2) (gC (.int 2))) ao))) (fz (gB (aI (lP id) (aI c7 (af 2) (gC (.int 0))) (gC (.str "look")))) (j7 (gM "list" 1 fU (ae (dH (d6 (aI c7 (af 2) (gC (.int 2)))) [Z] (cx 0) bK (aI c7 (af 0) (gC (.int 1)))) ao))) bg))
def iD:Ev->SR:=(aG (bL 1 (fZ ao))
 (aG (vE (d6 (af 0)) (cx 2)
 gy)
 (bb (af 1))))
def dU:List U->R U:=cR .O 3 iD
noncomputable abbrev FK:Gm:=⟨[Y,Y,Y,Y,Y],Y,λ_=>False⟩
def pY:Ev->SR:=(aG (bL 2 (fZ (ae (af 0) ao)))
 (aG (bL 3 (gC (.int 0)))
 (aG (bL 4 (gC (.int 0)))
 (aG (jI (gB (aI Gi (dq dI (ae (af 2) ao)) (gC (.int 0))))
 (aG (BM 3 (Qa (λi j=>i+j)) (dq dI (ae (af 2) ao)))
 (aG (BM 4 (Qa (λi j=>i+j)) (gC (.int 1)))
 (aG (fz (ze (gB (aI Gi (af 3) (gC (.int 60)))) (gB (aI Gi (af 4) (gC (.int 12))))) (bb (gC (.bl Y))) bg)
 (aG (fz (jq (gB (dq l8 (ae (dH (d6 (af 2)) [Z,J 1] (cx 0) bK (dz 2 bG (ae (af 0) (ae (af 1) ao)))) ao)))) (bb (gC (.bl Y))) bg)
 (bL 2 (dz 1 dU (ae (af 2) ao))))))) 1000)
 (bb (gC (.bl M)))))))
def dA:List U->R U:=cR .S 5 pY
noncomputable abbrev Ci:Gm:=⟨[Y],Y,λ_=>False⟩
def uM:Ev->SR:=(bb (dq (jw " ") (ae (dH (d6 (af 0)) [Z] (cx 0) bK (dq B_ (ae (af 0) ao))) ao)))
def cv:List U->R U:=cR .S 1 uM
noncomputable abbrev uN:Gm:=⟨[Y,Y,Y],Y,λ_=>False⟩
noncomputable abbrev qN:Gm:=⟨[Y,Y,Y,Y,Y],Y,λ_=>False⟩
mutual
noncomputable def fK:Nat->Ev->SR
 |0=>λ_=>.stk
 |n+1=>let r_plan_text:=cR .S 5 (cC n)
  (aG (bL 1 (dz 1 cv (ae (aI c7 (af 0) (gC (.int 0))) ao)))
 (aG (bL 2 (dz 1 r_plan_text (ae (aI c7 (af 0) (gC (.int 1))) ao)))
 (bb (gF [.inr 1,.inl " : ",.inr 2]))))
noncomputable def cC:Nat->Ev->SR
 |0=>λ_=>.stk
 |n+1=>let r_way_text:=cR .S 3 (fK n)
  let r_plan_text:=cR .S 5 (cC n)
  (aG (bL 1 (aI c7 (af 0) (gC (.int 0))))
 (aG (fz (gB (aI (gI id) (af 1) (gC (.str "again")))) (bb (gC (.str "again"))) bg)
 (aG (fz (gB (aI (gI id) (af 1) (gC (.str "mix")))) (bL 2 (dq (jw " / ") (ae (dH (d6 (aI c7 (af 0) (gC (.int 1)))) [Z] (cx 0) bK (dz 1 cv (ae (af 0) ao))) ao))) (bL 2 (dz 1 cv (ae (aI c7 (af 0) (gC (.int 1))) ao))))
 (aG (fz (gB (aI (gI id) (af 1) (gC (.str "end")))) (bb (gF [.inl "end ",.inr 2])) bg)
 (aG (fz (gB (aI (gI id) (af 1) (gC (.str "look")))) (aG (bL 3 (dq (jw " ; ") (ae (dH (d6 (aI c7 (af 0) (gC (.int 2)))) [Z] (cx 0) bK (dz 1 r_way_text (ae (af 0) ao))) ao)))
 (bb (gF [.inl "look ",.inr 2,.inl " (",.inr 3,.inl ")"]))) bg)
 (aG (bL 4 (dz 1 r_plan_text (ae (aI c7 (af 0) (gC (.int 2))) ao)))
 (bb (gF [.inr 1,.inl " ",.inr 2,.inl " : ",.inr 4]))))))))
end
def fL (n:Nat):List U->R U:=cR .S 3 (fK n)
def aR (n:Nat):List U->R U:=cR .S 5 (cC n)
open Classical in
def dW:List U->R U:=λus=>match us with
 | [.str x,.int m]=>if h:∃u,WZ x u/\dA [u,.int m]=.ok (.bl M)/\aR 20 [u]=.ok (.str x) then .ok h.choose else .stk
 |_=>.stk
open Classical in
def fM:List U->R U:=λus=>match us with
 | [.str x]=>if h:∃u,W0 x u/\f9 [u]=.ok (.bl M)/\cv [u]=.ok (.str x) then .ok h.choose else .stk
 |_=>.stk
noncomputable abbrev uP:Gm:=⟨[Y,Y],Y,λ_=>False⟩
def fv:Ev->SR:=(aG (fz (gB (aI Hz (af 1) (dq dI (ae (af 0) ao)))) (bb (aI c7 (af 0) (af 1))) bg)
 (bb (gC (.int 0))))
def dX:List U->R U:=cR .S 2 fv
noncomputable abbrev yd:Gm:=⟨[Y,Y,Y],Y,λ_=>False⟩
def gJ:Ev->SR:=(aG (bL 2 (dz 2 dX (ae (af 0) (ae (af 1) ao))))
 (aG (fz (gB (aI Ww (af 2) (aI LS (gC (.int 10)) (gC (.int 18))))) (bb (fZ (ae (aI tJ (af 2) (aI LS (gC (.int 10)) (gC (.int 18)))) (ae (gC (.bl M)) ao)))) bg)
 (bb (fZ (ae (aI zu (af 2) (gC (.int 2147483647))) (ae (gC (.bl Y)) ao))))))
def fw:List U->R U:=cR .O 3 gJ
noncomputable abbrev Ao:Gm:=⟨[M,Y,Y,Y],M,λ_=>False⟩
def iW:Ev->SR:=(aG (fz (gB (aI c7 (af 0) (gC (.int 1)))) (aG (bL 2 (aI zu (aI c7 (af 0) (gC (.int 0))) (af 1)))
 (aG (C4 0 (aI zq (aI c7 (af 0) (gC (.int 0))) (af 1)) (gC (.int 0)))
 (bb (af 2)))) bg)
 (aG (C4 0 (aI zu (aI de (aI kI (aI c7 (af 0) (gC (.int 0))) (gC (.int 48271))) (gC (.int 29))) (gC (.int 2147483647))) (gC (.int 0)))
 (aG (bL 3 (aI zu (aI de (aI de (aI kI (aI c7 (af 0) (gC (.int 0))) (aI c7 (af 0) (gC (.int 0)))) (aI kI (gC (.int 39373)) (aI c7 (af 0) (gC (.int 0))))) (gC (.int 7))) (gC (.int 2147483629))))
 (aG (bL 3 (aI zu (aI de (aI kI (af 3) (af 3)) (aI kI (gC (.int 16807)) (af 3))) (gC (.int 2147483587))))
 (bb (aI zu (aI zq (af 3) (gC (.int 8))) (af 1)))))))
def aB:List U->R (U×U):=kH 4 iW
noncomputable abbrev fN:Gm:=⟨[M,Y,Y],M,λ_=>False⟩
def jT:Ev->SR:=(aG (bL 2 (jr 2 0 aB (ae (gC (.int 4)) ao)))
 (aG (fz (gB (aI Hz (af 2) (gC (.int 2)))) (bb (dq fH (ae (vF fN (ig (ae (af 1) ao)) [Z,J 0] (cx 0) bK (jr 2 1 aB (ae (gC (.int 2)) ao))) ao))) bg)
 (bb (dq fH (ae (vF fN (ig (ae (af 1) ao)) [Z,J 0,J 2] (cx 0) bK (jr 2 1 aB (ae (aI c7 (fZ (ae (gC (.int 3)) (ae (gC (.int 10)) ao))) (aI tJ (af 2) (gC (.int 2)))) ao))) ao)))))
def fO:List U->R (U×U):=kH 3 jT
noncomputable abbrev jU:Gm:=⟨[M,Y,M],M,λ_=>False⟩
def jV:Ev->SR:=(aG (bL 2 (Dg (ae (af 1) ao)))
 (bb (dq fH (ae (vF jU (ig (ae (af 1) ao)) [Z,J 2,J 0] (cx 0) bK (gM "list" 1 pM (ae (jr 2 2 aB (ae (dq dI (ae (af 1) ao)) ao)) ao))) ao))))
def cB:List U->R (U×U):=kH 3 jV
noncomputable abbrev Ap:Gm:=⟨[Y,Y],Y,λ_=>False⟩
def kX:Ev->SR:=(bb (dq fH (ae (dH (d6 (af 1)) [Z,J 0] (cx 0) bK (aI c7 (af 1) (af 0))) ao)))
def cg:List U->R U:=cR .S 2 kX
noncomputable abbrev iE:Gm:=⟨[M,Y,Y,Y,Y,Y,Y,Y,Y,M],M,λ_=>False⟩
def cF:Ev->SR:=(aG (bL 2 (HC (ae (af 1) ao)))
 (aG (bL 3 (jr 2 0 aB (ae (gC (.int 6)) ao)))
 (aG (fz (gB (aI (gI id) (af 3) (gC (.int 0)))) (bb (dq fH (ae (dH (ig (ae (af 1) ao)) [Z,J 2] (cx 0) bK (aI de (qm n_ (af 1) (cV (af 0)) dw) (qm n_ (af 1) dw (cV (af 0))))) ao))) bg)
 (aG (fz (gB (aI (gI id) (af 3) (gC (.int 1)))) (aG (bL 4 (jr 2 0 cB (ae (af 1) ao)))
 (bb (eD (ae (af 2) (ae (af 4) ao))))) bg)
 (aG (fz (gB (aI (gI id) (af 3) (gC (.int 2)))) (aG (bL 5 (aI zq (af 1) (gC (.int 2))))
 (bb (eD (ae (af 2) (ae (aI de (aI de (qm n_ (af 2) (cV (af 5)) (cV (aI kI (gC (.int 2)) (af 5)))) (qm n_ (af 2) dw (cV (af 5)))) (qm n_ (af 2) (cV (aI kI (gC (.int 2)) (af 5))) dw)) ao))))) bg)
 (aG (fz (gB (aI (gI id) (af 3) (gC (.int 3)))) (aG (bL 6 (fZ (ae (eD ao) ao)))
 (aG (bL 7 (dq zw (ae (af 1) (ae (aI de (gC (.int 2)) (jr 2 0 aB (ae (gC (.int 3)) ao))) ao))))
 (aG (vE (ig (ae (af 7) ao)) (cx 8)
 (aG (bL 9 (fZ ao))
 (aG (vE (d6 (af 6)) (cx 4)
 (j7 (gM "list" 9 fU (ae (dH (ig (ae (aI de (af 8) (gC (.int 1))) ao)) [Z,J 4,J 8] (cx 0) bK (aI de (aI de (qm n_ (af 1) dw (cV (af 0))) (eD (ae (af 2) ao))) (qm n_ (af 1) (cV (af 0)) dw))) ao))))
 (zh 6 9))))
 (bb (dq fH (ae (dH (d6 (af 6)) [Z,J 2,J 7] (cx 0) bK (aI de (af 0) (qm n_ (af 1) (cV (af 2)) dw))) ao)))))) bg)
 (bb (dq fH (ae (vF iE (ig (ae (aI de (gC (.int 1)) (jr 2 0 aB (ae (gC (.int 4)) ao))) ao)) [Z,J 0,J 1] (cx 0) bK (jr 2 1 cB (ae (af 2) ao))) ao)))))))))
def bp:List U->R (U×U):=kH 10 cF
noncomputable abbrev Cj:Gm:=⟨[M,Y,Y],M,λ_=>False⟩
def nq:Ev->SR:=(aG (bL 2 (jr 2 0 cB (ae (af 1) ao)))
 (bb (eD (ae (gC (.str "end")) (ae (qm n_ (af 2) dw (cV (aI de (gC (.int 1)) (jr 2 0 aB (ae (aI c7 (fZ (ae (gC (.int 2)) (ae (af 1) ao))) (jr 2 0 aB (ae (gC (.int 2)) ao))) ao))))) ao)))))
def fP:List U->R (U×U):=kH 3 nq
noncomputable abbrev iX:Gm:=⟨[M,Y,Y,Y,Y,Y,Y,M,Y,Y,Y],M,λ_=>False⟩
noncomputable abbrev qO:Gm:=⟨[M,Y,Y,Y,Y,Y,Y,Y,M],M,λ_=>False⟩
mutual
noncomputable def eV:Nat->Ev->SR
 |0=>λ_=>.stk
 |n+1=>let r__law_plan:=kH 9 (bU n)
  (aG (bL 4 (dq dI (ae (aI c7 (af 1) (gC (.int 0))) ao)))
 (aG (bL 5 (qm n_ (jr 2 0 cB (ae (af 4) ao)) dw (cV (aI de (gC (.int 1)) (aI kI (jr 2 0 aB (ae (gC (.int 2)) ao)) (dq HB (ae (aI Gi (af 4) (gC (.int 1))) ao)))))))
 (aG (bL 6 (dq eF (ae (dH (d6 (af 1)) [Z,J 5] (cx 0) bK (dz 2 cg (ae (af 0) (ae (af 1) ao)))) ao)))
 (aG (fz (gB (aI Gi (dq dI (ae (af 6) ao)) (gC (.int 4)))) (bb (jr 2 0 fP (ae (af 4) ao))) bg)
 (aG (bL 7 (fZ ao))
 (aG (vE (d6 (af 6)) (cx 8)
 (aG (bL 9 (dH (d6 (af 1)) [Z,J 8,J 5] (cx 0) (gB (aI (lP id) (dz 2 cg (ae (af 0) (ae (af 2) ao))) (af 1))) (af 0)))
 (j7 (gM "list" 7 lQ (ae (eD (ae (af 8) (ae (jr 4 0 r__law_plan (ae (af 9) (ae (aI tJ (af 2) (gC (.int 1))) (ae (af 3) ao)))) ao))) ao)))))
 (aG (fz (gB (aI (gI id) (jr 2 0 aB (ae (gC (.int 6)) ao)) (gC (.int 0)))) (aG (bL 10 (dq fH (ae (vF iX (d6 (af 5)) [Z,J 0] (cx 0) bK (jr 2 1 aB (ae (gC (.int 10)) ao))) ao)))
 (fz (gB (aI (KZ not) (af 10) (af 6))) (bL 7 (dq uB (ae (Mg 7 de (fZ (ae (eD (ae (af 10) (ae (jr 2 0 fP (ae (af 4) ao)) ao))) ao))) ao))) bg)) bg)
 (bb (eD (ae (gC (.str "look")) (ae (af 5) (ae (dq fH (ae (af 7) ao)) ao))))))))))))
noncomputable def bU:Nat->Ev->SR
 |0=>λ_=>.stk
 |n+1=>let r__law_look:=kH 11 (eV n)
  let r__law_plan:=kH 9 (bU n)
  (aG (bL 4 (dq dI (ae (aI c7 (af 1) (gC (.int 0))) ao)))
 (aG (bL 5 (jr 2 0 aB (ae (gC (.int 12)) ao)))
 (aG (fz (ze (gB (aI Hz (af 2) (gC (.int 2)))) (gB (aI (gI id) (af 5) (gC (.int 0))))) (bb (jr 2 0 fP (ae (af 4) ao))) bg)
 (aG (fz (LD (gB (aI (gI id) (af 5) (gC (.int 1)))) (gB (af 3))) (bb (eD (ae (gC (.str "again")) ao))) bg)
 (aG (fz (gB (aI Hz (af 5) (gC (.int 4)))) (aG (bL 6 (jr 2 0 cB (ae (af 4) ao)))
 (bb (eD (ae (gC (.str "lay")) (ae (af 6) (ae (jr 4 0 r__law_plan (ae (dq eF (ae (dH (d6 (af 1)) [Z,J 6] (cx 0) bK (dz 2 cg (ae (af 0) (ae (af 1) ao)))) ao)) (ae (aI tJ (af 2) (gC (.int 1))) (ae (af 3) ao)))) ao)))))) bg)
 (aG (fz (gB (aI Hz (af 5) (gC (.int 8)))) (aG (bL 7 (jr 2 0 bp (ae (af 4) ao)))
 (aG (bL 8 (fZ ao))
 (aG (vE (d6 (af 7)) (cx 6)
 (j7 (gM "list" 8 fU (ae (dH (d6 (af 1)) [Z,J 6] (cx 0) bK (dz 2 cg (ae (af 0) (ae (af 1) ao)))) ao))))
 (bb (eD (ae (gC (.str "mix")) (ae (af 7) (ae (jr 4 0 r__law_plan (ae (dq eF (ae (af 8) ao)) (ae (aI tJ (af 2) (gC (.int 1))) (ae (af 3) ao)))) ao)))))))) bg)
 (bb (jr 4 0 r__law_look (ae (af 1) (ae (af 2) (ae (af 3) ao)))))))))))
end
def iY (n:Nat):List U->R (U×U):=kH 11 (eV n)
def bO (n:Nat):List U->R (U×U):=kH 9 (bU n)
noncomputable abbrev qP:Gm:=⟨[Y],Y,λ_=>False⟩
def eW:Nat->Ev->SR
 |0=>λ_=>.stk
 |n+1=>let r__law_size:=cR .S 1 (eW n)
  (aG (fz (gB (aI (KZ id) (aI c7 (af 0) (gC (.int 0))) (eD (ae (gC (.str "lay")) (ae (gC (.str "mix")) ao))))) (bb (aI de (gC (.int 1)) (dz 1 r__law_size (ae (aI c7 (af 0) (gC (.int 2))) ao)))) bg)
 (aG (fz (gB (aI (gI id) (aI c7 (af 0) (gC (.int 0))) (gC (.str "look")))) (bb (aI de (gC (.int 1)) (dq Ag (ae (dH (d6 (aI c7 (af 0) (gC (.int 2)))) [Z] (cx 0) bK (dz 1 r__law_size (ae (aI c7 (af 0) (gC (.int 1))) ao))) ao)))) bg)
 (bb (gC (.int 1)))))
def eX (n:Nat):List U->R U:=cR .S 1 (eW n)
noncomputable abbrev ye:Gm:=⟨[M,Y,Y,Y,Y],M,λ_=>False⟩
def gK:Ev->SR:=(aG (bL 4 (jr 4 0 (bO 8) (ae (dq eF (ae (af 1) ao)) (ae (af 2) (ae (af 3) ao)))))
 (bb (Wm (gB (aI Hz (dz 1 (eX 20) (ae (af 4) ao)) (gC (.int 61)))) (af 4) (eD (ae (gC (.str "end")) (ae (eD (ae (gC (.int 0)) ao)) ao))))))
def fx:List U->R (U×U):=kH 5 gK
noncomputable abbrev uQ:Gm:=⟨[Y],Y,λ_=>False⟩
def iF:Ev->SR:=(bb (dq (jw " ") (ae (dH (d6 (af 0)) [Z] (cx 0) bK (dq B_ (ae (af 0) ao))) ao)))
def bq:List U->R U:=cR .S 1 iF
noncomputable abbrev qQ:Gm:=⟨[Y,Y,Y],Y,λ_=>False⟩
def cM:Nat->Ev->SR
 |0=>λ_=>.stk
 |n+1=>let r__law_text:=cR .S 3 (cM n)
  (aG (fz (gB (aI (gI id) (aI c7 (af 0) (gC (.int 0))) (gC (.str "again")))) (bb (gC (.str "again"))) bg)
 (aG (fz (gB (aI (gI id) (aI c7 (af 0) (gC (.int 0))) (gC (.str "end")))) (bb (aI fk (gC (.str "end ")) (dz 1 bq (ae (aI c7 (af 0) (gC (.int 1))) ao)))) bg)
 (aG (fz (gB (aI (gI id) (aI c7 (af 0) (gC (.int 0))) (gC (.str "lay")))) (bb (aI fk (aI fk (aI fk (gC (.str "lay ")) (dz 1 bq (ae (aI c7 (af 0) (gC (.int 1))) ao))) (gC (.str " : "))) (dz 1 r__law_text (ae (aI c7 (af 0) (gC (.int 2))) ao)))) bg)
 (aG (fz (gB (aI (gI id) (aI c7 (af 0) (gC (.int 0))) (gC (.str "mix")))) (aG (bL 1 (dq (jw " / ") (ae (dH (d6 (aI c7 (af 0) (gC (.int 1)))) [Z] (cx 0) bK (dz 1 bq (ae (af 0) ao))) ao)))
 (bb (aI fk (aI fk (aI fk (gC (.str "mix ")) (af 1)) (gC (.str " : "))) (dz 1 r__law_text (ae (aI c7 (af 0) (gC (.int 2))) ao))))) bg)
 (aG (bL 2 (dH (d6 (aI c7 (af 0) (gC (.int 2)))) [Z,Z] (tm 2 (gr (cx 0) (gr (cx 1) wu))) bK (aI fk (aI fk (dz 1 bq (ae (af 0) ao)) (gC (.str " : "))) (dz 1 r__law_text (ae (af 1) ao)))))
 (bb (aI fk (aI fk (aI fk (aI fk (gC (.str "look ")) (dz 1 bq (ae (aI c7 (af 0) (gC (.int 1))) ao))) (gC (.str " ("))) (dq (jw " ; ") (ae (af 2) ao))) (gC (.str ")")))))))))
def bh (n:Nat):List U->R U:=cR .S 3 (cM n)
noncomputable abbrev oJ:Gm:=⟨[Y],Y,λ_=>False⟩
def d_:Nat->Ev->SR
 |0=>λ_=>.stk
 |n+1=>let r__law_plain:=cR .S 1 (d_ n)
  (aG (fz (gB (f6 "tuple" (af 0))) (bb (aI (lP id) (dH (d6 (af 0)) [Z] (cx 0) (jq (gB (dz 1 r__law_plain (ae (af 0) ao)))) (af 0)) (fZ ao))) bg)
 (bb (Wl (f6 "str" (af 0)) (kE (f6 "int" (af 0)) (LH (f6 "bool" (af 0)))))))
def aM (n:Nat):List U->R U:=cR .S 1 (d_ n)
noncomputable abbrev JF:Gm:=⟨[Y,Y,M,Y,Y,Y,Y,Y],Y,λ_=>False⟩
def uR:Ev->SR:=(aG (bL 2 (dz 2 fw (ae (af 0) (ae (af 1) ao))))
 (aG (bL 3 (aI de (gC (.int 1)) (jr 2 2 aB (ae (gC (.int 8)) ao))))
 (aG (bL 4 (vF JF (ig (ae (gC (.int 2)) ao)) [Z,J 2,J 3] (cx 0) bK (jr 2 1 fO (ae (af 2) ao))))
 (aG (bL 5 (jr 4 2 fx (ae (af 4) (ae (aI de (gC (.int 2)) (jr 2 2 aB (ae (aI tJ (gC (.int 3)) (dq HB (ae (aI Gi (af 3) (gC (.int 6))) ao))) ao))) (ae (gC (.bl M)) ao)))))
 (aG (bL 6 (dz 1 (bh 20) (ae (af 5) ao)))
 (aG (fz (gB (aI (gI not) (dz 1 (aR 20) (ae (af 5) ao)) (af 6))) (bb (gC (.bl Y))) bg)
 (aG (fz (gB (aI Hz (dq dI (ae (af 6) ao)) (gC (.int 4001)))) (aG (bL 7 (dz 2 dW (ae (af 6) (ae (af 3) ao))))
 (fz (ze (gB (aI (lP not) (af 7) (af 5))) (jq (gB (dz 1 (aM 20) (ae (af 7) ao))))) (bb (gC (.bl Y))) bg)) bg)
 (aG (bL 7 (dz 1 fM (ae (dz 1 bq (ae (aI c7 (af 4) (gC (.int 0))) ao)) ao)))
 (fz (ze (gB (aI (gI not) (dz 1 cv (ae (aI c7 (af 4) (gC (.int 0))) ao)) (dz 1 bq (ae (aI c7 (af 4) (gC (.int 0))) ao)))) (ze (gB (aI (lP not) (af 7) (aI c7 (af 4) (gC (.int 0))))) (jq (gB (dz 1 (aM 20) (ae (af 7) ao)))))) (bb (gC (.bl Y))) bg)))))))))
def JG:Ev->SR:=(aG (vE (ig (ae (dq C_ (ae (gC (.int 1)) (ae (dq zw (ae (dq dI (ae (af 0) ao)) (ae (gC (.int 8)) ao))) ao))) ao)) (cx 1)
 uR)
 (bb (gC (.bl M))))
def Aq:List U->R U:=cR .S 8 JG
end Hc
end
variable {RP:L2.RR}
namespace Hc
open L2
abbrev uS:Ô:=top 6
abbrev yf:Ô:=top 7
abbrev yg:Ô:=top 8
abbrev oK:Ô:=top 9
abbrev jW:Ô:=top 12
abbrev jX:Ô:=top 16
abbrev yi:Ô:=top 17
abbrev kY:Ô:=top 18
abbrev uT:Ô:=top 19
abbrev gL:Ô:=top 20
abbrev su:Ô:=top 21
abbrev oM:Ô:=top 24
abbrev kZ:Ô:=top 25
abbrev fQ:Ô:=top 26
abbrev gY:Ô:=top 30
abbrev jx:Ô:=top 31
abbrev nu:Ô:=top 33
abbrev pZ:Ô:=top 34
abbrev uU:Ô:=top 35
abbrev oN:Ô:=top 36
abbrev lX:Ô:=top 37
abbrev oO:Ô:=top 38
abbrev dY:Ô:=top 39
abbrev yj:Ô:=top 40
abbrev gb:Ô:=top 41
abbrev iG:Ô:=top 42
abbrev jy:Ô:=top 43
abbrev p6:Ô:=top 44
abbrev iZ:Ô:=top 45
abbrev iH:Ô:=top 46
abbrev gZ:Ô:=top 47
abbrev yk:Ô:=top 48
abbrev Bd (x:Str)(ps:List Str)(s:Ô):Prop:=∀(kV ku pm:F) (an:Option G) (bT ct:F) (us:List F),us.length=ps.length->bindArgs (Ĉ x x (di s) (aU s) (ag s) .none kV ku pm an bT ct) ⟨us,[]⟩=pure (ps.zip us)
def mB {P:List Str}{sc:Ā}(a:sc.kind=.function:=by rfl)(b:sc.isCoroutine=Y:=by rfl)(c:sc.isGenerator=Y:=by rfl)(d:N.Nodup:=by decide+kernel)(e:N.take P.length=P:=by rfl)(f:∀x∈P,sc.names.lookup x=J .local\/sc.names.lookup x=J .cell:=by decide+kernel)(g:∀y∈sc.names,y.2≠.free:=by decide+kernel):az N P sc:=⟨a,b,c,d,e,f,g⟩
def rm {A:Ñ}(r:cI k A)(h:j<=k:=by first|decide|lia):cI j A:=r.mono h
def Ar:az ["thing"] ["thing"] (ag uS):=mB
theorem As:Bd "is_whole" ["thing"] uS:=λ_ _ _ _ _ _ us hl=>match us,hl with|[_],_=>rfl
def Ck:az ["thing"] ["thing"] (ag yf):=mB
theorem Cm:Bd "is_card" ["thing"] yf:=λ_ _ _ _ _ _ us hl=>match us,hl with|[_],_=>rfl
def FQ:az ["thing"] ["thing"] (ag yg):=mB
theorem FR:Bd "is_row" ["thing"] yg:=λ_ _ _ _ _ _ us hl=>match us,hl with|[_],_=>rfl
def Au:az ["thing","many"] ["thing","many"] (ag oK):=mB
theorem Av:Bd "is_order" ["thing","many"] oK:=λ_ _ _ _ _ _ us hl=>match us,hl with|[_,_],_=>rfl
def vJ:az ["thing","many"] ["thing","many"] (ag jW):=mB
theorem vK:Bd "is_shuffle" ["thing","many"] jW:=λ_ _ _ _ _ _ us hl=>match us,hl with|[_,_],_=>rfl
def vL:az ["thing","many"] ["thing","many"] (ag jX):=mB
theorem vM:Bd "are_places" ["thing","many"] jX:=λ_ _ _ _ _ _ us hl=>match us,hl with|[_,_],_=>rfl
def xf:az ["thing","size","seen"] ["thing","size"] (ag yi):=mB
theorem FU:Bd "is_way" ["thing","size"] yi:=λ_ _ _ _ _ _ us hl=>match us,hl with|[_,_],_=>rfl
def Aw:az ["thing","size"] ["thing","size"] (ag kY):=mB
theorem Ax:Bd "are_ways" ["thing","size"] kY:=λ_ _ _ _ _ _ us hl=>match us,hl with|[_,_],_=>rfl
def Ay:az ["thing","many"] ["thing","many"] (ag uT):=mB
theorem Az:Bd "has_form" ["thing","many"] uT:=λ_ _ _ _ _ _ us hl=>match us,hl with|[_,_],_=>rfl
def gz:az ["plans","inner","plan"] ["plans"] (ag gL):=mB
theorem rC:Bd "plans_within" ["plans"] gL:=λ_ _ _ _ _ _ us hl=>match us,hl with|[_],_=>rfl
def eN:az ["thing","many","level","met","depth"] ["thing","many"] (ag su):=mB
theorem Co:Bd "is_plan" ["thing","many"] su:=λ_ _ _ _ _ _ us hl=>match us,hl with|[_,_],_=>rfl
def AB:az ["row"] ["row"] (ag oM):=mB
theorem AD:Bd "row_text" ["row"] oM:=λ_ _ _ _ _ _ us hl=>match us,hl with|[_],_=>rfl
def i0:az ["way","seen","inner"] ["way"] (ag kZ):=mB
theorem qR:Bd "way_text" ["way"] kZ:=λ_ _ _ _ _ _ us hl=>match us,hl with|[_],_=>rfl
def dk:az ["plan","form","numbers","ways","inner"] ["plan"] (ag fQ):=mB
theorem oP:Bd "plan_text" ["plan"] fQ:=λ_ _ _ _ _ _ us hl=>match us,hl with|[_],_=>rfl
def oQ:az ["text","many","plan"] ["text","many"] (ag gY):=mB
theorem ym:Bd "plan_read" ["text","many"] gY:=λ_ _ _ _ _ _ us hl=>match us,hl with|[_,_],_=>rfl
def qS:az ["text","row"] ["text"] (ag jx):=mB
theorem AE:Bd "row_read" ["text"] jx:=λ_ _ _ _ _ _ us hl=>match us,hl with|[_],_=>rfl
def rD:az ["script","k"] ["script","k"] (ag nu):=mB
theorem rE:Bd "_law_cell_at" ["script","k"] nu:=λ_ _ _ _ _ _ us hl=>match us,hl with|[_,_],_=>rfl
def mC:az ["script","k","cell"] ["script","k"] (ag pZ):=mB
theorem vN:Bd "_law_state" ["script","k"] pZ:=λ_ _ _ _ _ _ us hl=>match us,hl with|[_,_],_=>rfl
def gN:az ["state","many","found","mixed"] ["state","many"] (ag uU):=mB
theorem yn:Bd "_law_take" ["state","many"] uU:=λ_ _ _ _ _ _ us hl=>match us,hl with|[_,_],_=>rfl
def qT:az ["state","many","way"] ["state","many"] (ag oN):=mB
theorem AF:Bd "_law_row" ["state","many"] oN:=λ_ _ _ _ _ _ us hl=>match us,hl with|[_,_],_=>rfl
def mD:az ["state","many","left"] ["state","many"] (ag lX):=mB
theorem vO:Bd "_law_order" ["state","many"] lX:=λ_ _ _ _ _ _ us hl=>match us,hl with|[_,_],_=>rfl
def yo:az ["row","order"] ["row","order"] (ag oO):=mB
theorem yp:Bd "_law_laid" ["row","order"] oO:=λ_ _ _ _ _ _ us hl=>match us,hl with|[_,_],_=>rfl
def bw:az ["state","many","stays","way","order","half","some","size","k","longer"] ["state","many"] (ag dY):=mB
theorem rF:Bd "_law_shuffle" ["state","many"] dY:=λ_ _ _ _ _ _ us hl=>match us,hl with|[_,_],_=>rfl
def qU:az ["state","many","order"] ["state","many"] (ag yj):=mB
theorem AG:Bd "_law_end" ["state","many"] yj:=λ_ _ _ _ _ _ us hl=>match us,hl with|[_,_],_=>rfl
def cf:az ["state","rows","deep","again","many","places","seen","ways","some","left","more"] ["state","rows","deep","again"] (ag gb):=mB
theorem oR:Bd "_law_look" ["state","rows","deep","again"] gb:=λ_ _ _ _ _ _ us hl=>match us,hl with|[_,_,_,_],_=>rfl
def cN:az ["state","rows","deep","again","many","way","order","shuffle","fresh"] ["state","rows","deep","again"] (ag iG):=mB
theorem oT:Bd "_law_plan" ["state","rows","deep","again"] iG:=λ_ _ _ _ _ _ us hl=>match us,hl with|[_,_,_,_],_=>rfl
def oU:az ["plan"] ["plan"] (ag jy):=mB
theorem oV:Bd "_law_size" ["plan"] jy:=λ_ _ _ _ _ _ us hl=>match us,hl with|[_],_=>rfl
def mE:az ["state","rows","deep","again","plan"] ["state","rows","deep","again"] (ag p6):=mB
theorem vP:Bd "_law_drawn" ["state","rows","deep","again"] p6:=λ_ _ _ _ _ _ us hl=>match us,hl with|[_,_,_,_],_=>rfl
def rG:az ["some"] ["some"] (ag iZ):=mB
theorem rH:Bd "_law_numbers" ["some"] iZ:=λ_ _ _ _ _ _ us hl=>match us,hl with|[_],_=>rfl
def gO:az ["plan","orders","ways"] ["plan"] (ag iH):=mB
theorem oW:Bd "_law_text" ["plan"] iH:=λ_ _ _ _ _ _ us hl=>match us,hl with|[_],_=>rfl
def mF:az ["thing"] ["thing"] (ag gZ):=mB
theorem mG:Bd "_law_plain" ["thing"] gZ:=λ_ _ _ _ _ _ us hl=>match us,hl with|[_],_=>rfl
def jY:az ["script","k","state","many","rows","plan","text","found"] ["script"] (ag yk):=mB
structure Txt (mg:Str->Option F):Prop where
 zpq:mg "all"=Z
 zkq:mg "bool"=Z
 zoq:mg "int"=Z
 zdq:mg "isinstance"=Z
 zmq:mg "len"=Z
 zjq:mg "list"=Z
 zqq:mg "max"=Z
 zrq:mg "min"=Z
 zhq:mg "range"=Z
 zlq:mg "set"=Z
 zgq:mg "sorted"=Z
 zsq:mg "str"=Z
 znq:mg "sum"=Z
 ziq:mg "tuple"=Z
 ztq:mg "zip"=Z
 zaq:∃tk,mg "GREATEST_CARD"=J (.int 9 tk)
 zfq:∃tk,mg "MOST_CARDS"=J (.int 8 tk)
 zcq:∃tk,mg "MOST_ORDERS"=J (.int 24 tk)
 zeq:∃tk,mg "MOST_PLANS"=J (.int 60 tk)
 zbq:∃tk,mg "MOST_WITHIN"=J (.int 12 tk)
end Hc
section
set_option maxHeartbeats 400000
namespace Hc
open PySem L2
abbrev kR (j:Nat):Ô:=ff (top 29) j
section
variable {base:Í}
def VF:RR:=λ_ ws i u j=>u=.str (cm ws i)/\j=i
def W2:RR:=λ_ ws i u j=>u=.str (cm ws i)/\j=i+1
def SD:RR:=λrs ws i u j=>∃x,rs=[.str x]/\u=.bl (decide (cm ws i=x))/\j=if cm ws i=x then i+1 else i
def SE:RR:=λrs ws i u j=>∃x,rs=[.str x]/\cm ws i=x/\u=.non/\j=i+1
def Uq:az ["self"] ["self"] (ag (kR 1)):=⟨rfl,rfl,rfl,by decide+kernel,rfl,by decide+kernel,by decide+kernel⟩
theorem xg (T:Txt mg)(co:CO K C ["words","at"])(hm:nI K C "coming" f)(F:rl K "coming" "Reader.coming" (kR 1) f fd):RM P w K mg base C "coming" 1 ["self"] 0 VF:=by
 refine⟨f,fd,hm,F.binds (λ_ _ _ _ _ _ us hl=>match us,hl with|[_],_=>rfl),F.ok Uq (λvs H Q E h00=>by obtain⟨a,l,ws,i,rs,u,j,e,ln,_⟩:=h00;rw[e,Ò,ln];rfl) λbT A outer s H vs Q E hr h00=>?_⟩;obtain⟨a,l,ws,i,rs,u,j,e,ln,r,⟨hu,hj⟩,_,q⟩:=h00;subst e hu;cases hj;cases ş ln;have h:yP (eZ kg P w K mg base ["self"] "Reader.coming" (ag (kR 1)) f bT A outer s H E).nox (aU (kR 1)) _:=
  aA (fo (Oy (Uk (x_ (wv 0)) (QT T.zmq (by rfl) (x_ (wv 0)))) (QU (x_ (wv 0)) (x_ (wv 0))) eC)) bz
 refine⟨_,h.un,?_⟩;obtain⟨dx,o⟩:=r.o;have nw:=co.no "words" (by simp);have na:=co.no "at" (by simp);refine⟨.ref a,rfl,a,C,dx,_,.int i,rfl,o,co.cl,na,rfl,.ref a,rfl,a,C,dx,_,.ref l,rfl,o,co.cl,nw,rfl,.ref l,ws.length,rfl,.inl ⟨_,eI.of r.w,by simp⟩,i,ws.length,rfl,rfl,_,rfl,?_⟩;by_cases hl:i<ws.length
 ·refine ya (by simpa using hl) ?_;refine⟨.ref a,rfl,a,C,dx,_,.ref l,rfl,o,co.cl,nw,rfl,.ref a,rfl,a,C,dx,_,.int i,rfl,o,co.cl,na,rfl,l,_,i,.str ws[i],rfl,rfl,eI.of r.w,?_,?_⟩
  ·unfold kz EV;rw[Æ,hV (by lia),hV (by simp[*])];show (ws.map V.str)[(i:Int).toNat]? = _;rw[ϑ,ă,Ø hl];rfl
  ·refine q _ H Bt.refl r λA=>?_;show V.str _=V.str _;unfold cm;rw[Ø hl];rfl
 ·refine jf (by simpa using hl) ?_;refine q _ H Bt.refl r λA=>?_;show V.str _=V.str _;grind[cm,π]
def OB:az ["self","word"] ["self"] (ag (kR 2)):=⟨rfl,rfl,rfl,by decide+kernel,rfl,by decide+kernel,by decide+kernel⟩
theorem AH (co:CO K C ["words","at"])(Mc:RM P w K mg base C "coming" 1 ["self"] 0 VF)(hm:nI K C "take" f)(F:rl K "take" "Reader.take" (kR 2) f fd):RM P w K mg base C "take" 2 ["self"] 0 W2:=by
 refine⟨f,fd,hm,F.binds (λ_ _ _ _ _ _ us hl=>match us,hl with|[_],_=>rfl),F.ok (k:=1) OB (λvs H Q E h00=>by obtain⟨a,l,ws,i,rs,u,j,e,ln,_⟩:=h00;rw[e,Ò,ln];rfl) λbT A outer s H vs Q E hr h00=>?_⟩;obtain⟨a,l,ws,i,rs,u,j,e,ln,r,⟨hu,hj⟩,_,q⟩:=h00;subst e hu hj;cases ş ln;have h:yP (eZ kg P w K mg base ["self","word"] "Reader.take" (ag (kR 2)) f bT A outer s H E).nox (aU (kR 2)) _:=
  aA (je (i:=1) OB.nd (j_ Mc co.cl hr)) (aA (Jx (wv 0) uF) (aA (fo (wv 1)) bz))
 refine⟨_,h.un,a,l,ws,i,rfl,r,a,l,ws,i,[],_,_,rfl,rfl,r,⟨rfl,rfl⟩,rfl,λv H1 b1 r1 rv=>?_⟩;refine Eb co rfl r1 λH2 b2 r2=>?_;have hv:v=.str (cm ws i):=rv λ_=>False;subst hv;exact⟨_,rfl,q _ H2 (b1.trans b2) r2 λA=>rfl⟩
def Ur:az ["self","word"] ["self","word"] (ag (kR 3)):=⟨rfl,rfl,rfl,by decide+kernel,rfl,by decide+kernel,by decide+kernel⟩
def OC {c:Bool}{j}{p:Pos}:WE X (.Constant (.bool c) j p) (tC (.bl c)):=⟨Ng⟩
theorem JH (co:CO K C ["words","at"])(Mc:RM P w K mg base C "coming" 1 ["self"] 0 VF)(hm:nI K C "takes" f)(F:rl K "takes" "Reader.takes" (kR 3) f fd):RM P w K mg base C "takes" 2 ["self","word"] 1 SD:=by
 refine⟨f,fd,hm,F.binds (λ_ _ _ _ _ _ us hl=>match us,hl with|[_,_],_=>rfl),F.ok (k:=1) Ur (λvs H Q E h00=>by obtain⟨a,l,ws,i,rs,u,j,e,ln,_⟩:=h00;rw[e,Ò,ln];rfl) λbT A outer s H vs Q E hr h00=>?_⟩;obtain⟨a,l,ws,i,rs,u,j,e,ln,r,⟨x,hx,hu,hj⟩,_,q⟩:=h00;subst e hu hj hx;have h:yP (eZ kg P w K mg base ["self","word"] "Reader.takes" (ag (kR 3)) f bT A outer s H E).nox (aU (kR 3)) _:=
  aA (kT (Am (j_ Mc co.cl hr) (wv 1)) (aA (fo OC) bz) bz) (aA (Jx (wv 0) uF) (aA (fo OC) bz))
 refine⟨_,h.un,a,l,ws,i,rfl,r,a,l,ws,i,[],_,_,rfl,rfl,r,⟨rfl,rfl⟩,rfl,λv H1 b1 r1 rv=>?_⟩;have hv:v=.str (cm ws i):=rv λ_=>False;subst hv;refine⟨.str x,rfl,rfl,_,rfl,?_⟩;by_cases e:cm ws i=x
 ·refine jf (by simp[e]) ?_;refine Eb co rfl r1 λH2 b2 r2=>?_;rw[hV e,hG e] at q;exact q _ H2 (b1.trans b2) r2 λA=>rfl
 ·refine ya (by simp[e]) ?_;rw[hU e,hJ e] at q;exact q _ H1 b1 r1 λA=>rfl
def Us:az ["self","word"] ["self","word"] (ag (kR 4)):=⟨rfl,rfl,rfl,by decide+kernel,rfl,by decide+kernel,by decide+kernel⟩
theorem Mr (co:CO K C ["words","at"])(Mt:RM P w K mg base C "takes" 2 ["self","word"] 1 SD)(hm:nI K C "need" f)(F:rl K "need" "Reader.need" (kR 4) f fd):RM P w K mg base C "need" 3 ["self","word"] 1 SE:=by
 refine⟨f,fd,hm,F.binds (λ_ _ _ _ _ _ us hl=>match us,hl with|[_,_],_=>rfl),F.ok (k:=2) Us (λvs H Q E h00=>by obtain⟨a,l,ws,i,rs,u,j,e,ln,_⟩:=h00;rw[e,Ò,ln];rfl) λbT A outer s H vs Q E hr h00=>?_⟩;obtain⟨a,l,ws,i,rs,u,j,e,ln,r,⟨x,hx,hc,hu,hj⟩,_,q⟩:=h00;subst e hu hj hx;have h:yP (eZ kg P w K mg base ["self","word"] "Reader.need" (ag (kR 4)) f bT A outer s H E).nox (aU (kR 4)) _:=
  aA (kT (uD (iV (rB Mt co.cl hr (bj (wv 1) bY)))) (aA uH bz) bz) bz
 refine⟨_,h.un,a,l,ws,i,rfl,r,.str x,rfl,a,l,ws,i,_,_,_,rfl,rfl,r,⟨x,rfl,rfl,rfl⟩,rfl,λv H1 b1 r1 rv=>?_⟩;rw[hG hc] at rv;have hv:v=.bl M:=rv λ_=>False;subst hv;rw[hV hc] at r1;exact⟨M,rfl,q _ H1 b1 r1 λA=>rfl⟩
end
end Hc
end
section
set_option maxHeartbeats 400000
namespace Hc
open PySem L2
abbrev FV:Ô:=top 27
abbrev AI:Ô:=top 28
section
variable {base:Í}
def QZ:az ["word"] ["word"] (ag FV):=⟨rfl,rfl,rfl,by decide+kernel,rfl,by decide+kernel,by decide+kernel⟩
def sv:az ["word","number","sign"] ["word"] (ag AI):=⟨rfl,rfl,rfl,by decide+kernel,rfl,by decide+kernel,by decide+kernel⟩
theorem Q0 (T:Txt mg)(TF:vG P w K mg "FIGURES" Cb)(d:Df K mg "is_number" FV):Fn P w K mg base "is_number" 1 ["word"] (ji K 1 uJ .S):=
 (kj P w base 0 ⟨[Y],Y,λ_=>False⟩ .S Oz d QZ (λ_ _ _ _ _ _ us hl=>match us,hl with|[_],_=>rfl) λhr hu=>(aq (aw (ic (ha:=(g9 qg mV (aK bD bV (by rfl) T.zmq cy (aa (ak 0) ah)) aj (aD _))) (hb:=(i9 (aK (d0 rfl) gH (by rfl) T.zpq jE (aa (cz (ag FV) ["word"] ["sign"] [Z] rfl (Ju (ak 0)) (λYq=>⟨(aQ (i:=0) (show (["sign"]:List Str).Nodup by decide+kernel)),aX,(Jv TF (by rfl) (ak 0))⟩)) ah))))))) :)
theorem Mv (T:Txt mg)(TF:vG P w K mg "FIGURES" Cb)(d:Df K mg "number_of" AI):Fn P w K mg base "number_of" 1 ["word"] (ji K 1 Cc .S):=
 (kj P w base 0 ⟨[Y,Y,Y],Y,λ_=>False⟩ .S JC d sv (λ_ _ _ _ _ _ us hl=>match us,hl with|[_],_=>rfl) λhr hu=>(ai (bo (i:=1) sv.nd aj) (ai (mS ŀ rfl (Ju (ak 0)) (aQ (i:=2) sv.nd) (aq (bo (i:=1) sv.nd (a_ bZ b_ (a_ jC gG aj (ak 1)) (QR TF (by rfl) (ak 2) (λ_ _=>rfl)))))) (aq (aw (ak 1))))) :)
theorem Q1 {n:Int}(h0:0<=n)(h9:n<=9):uJ [.str (dg n)]=.ok (.bl M)/\Cc [.str (dg n)]=.ok (.int n):=by
 have:n=0\/n=1\/n=2\/n=3\/n=4\/n=5\/n=6\/n=7\/n=8\/n=9:=by lia
 rcases this with rfl|rfl|rfl|rfl|rfl|rfl|rfl|rfl|rfl|rfl<;>exact⟨by kernel_rfl,by kernel_rfl⟩
end
end Hc
end
section
set_option maxHeartbeats 400000
namespace Hc
open PySem L2
section
variable {base:Í}
def OD:az ["self","numbers"] ["self"] (ag (kR 5)):=⟨rfl,rfl,rfl,by decide+kernel,rfl,by decide+kernel,by decide+kernel⟩
def W3 {f:List U->R U}{Q:VK}(e:f [.str x]=.ok u)(q:∀v H',aO H H'->(∀A,Rp K H' A u v)->Q v H')(hu:gX u=M):ji K 1 f .S ([.str x]++[]) H Q E0:=
 ⟨[.str x],λ_=>False,⟨_,_,rfl,rfl,rfl⟩,λ_ h=>h.elim,by
  show E2 K .S _ H (f [.str x]) Q;rw[e];exact λv H' sm rv=>q v H' sm λA=>Rp.tu (λ_ _ h=>h) hu rv⟩
theorem JI (T:Txt mg)(co:CO K C ["words","at"])(FN:Fn P w K mg base "is_number" 1 ["word"] (ji K 1 uJ .S))(FO:Fn P w K mg base "number_of" 1 ["word"] (ji K 1 Cc .S))(Mc:RM P w K mg base C "coming" 1 ["self"] 0 VF)(Mt:RM P w K mg base C "take" 2 ["self"] 0 W2)
  (hm:nI K C "read_numbers" f) (F:rl K "read_numbers" "Reader.read_numbers" (kR 5) f fd):RM P w K mg base C "read_numbers" 3 ["self"] 0 Bl:=by
 refine⟨f,fd,hm,F.binds (λ_ _ _ _ _ _ us hl=>match us,hl with|[_],_=>rfl),F.ok (k:=2) OD (λvs H Q E h00=>by obtain⟨a,l,ws,i,rs,u,j,e,ln,_⟩:=h00;rw[e,Ò,ln];rfl) λbT A outer s H vs Q E hr h00=>?_⟩;obtain⟨a,l,ws,i,rs,u,j,e,ln,r,⟨ns,hn,hz,hc,hs,hu,hj⟩,_,q⟩:=h00;subst e hu hj;cases ş ln;have rO:=hr.mono (show 1<=2 by decide);have h:yP (eZ kg P w K mg base ["self","numbers"] "Reader.read_numbers" (ag (kR 5)) f bT A outer s H E).nox (aU (kR 5)) _:=
  aA (je (i:=1) OD.nd (Ca bY)) (aA (uC ŀ (iV (xb FN rO (bj (j_ Mc co.cl rO) bY)))
   (aA (jQ (pX (wv 1) (xb FO rO (bj (j_ Mt co.cl hr) bY)))) bz)) (aA (fo (uE T.ziq (by rfl) (wv 1))) bz))
 refine⟨_,h.un,Ħ _,λp np=>?_⟩;have pa:p≠a:=λe=>by obtain⟨dx,o⟩:=r.o;lia
 have pl:p≠l:=λe=>by rw[e,r.w] at np;cases np
 have b0:Bt a H (cT H p (.lst [])):=λb o _ h=>by rw[aL (λe=>by lia)];exact h
 have r0:RD C a l ws i (cT H p (.lst [])):=by
  obtain⟨dx,o⟩:=r.o;exact⟨⟨dx,by rw[aL (Ĝ pa)];exact o⟩,by rw[aL (Ĝ pl)];exact r.w,r.z⟩
 refine⟨λm L H1=>∃k,k+m=ns.length/\L=[J (.ref a),J (.ref p)]/\Bt a H H1/\RD C a l ws (i+k) H1/\H1 p=J (.lst ((ns.take k).map V.int)),⟨ns.length,0,Ġ _,rfl,b0,r0,aW⟩,?_⟩;rintro m L H1 ⟨k,km,rfl,b1,r1,h1⟩;refine⟨a,l,ws,i+k,rfl,r1,a,l,ws,i+k,[],_,_,rfl,rfl,r1,⟨rfl,rfl⟩,rfl,λv H2 b2 r2 rv=>?_⟩;have hv:v=.str (cm ws (i+k)):=rv λ_=>False;subst hv;have h2:H2 p=J (.lst ((ns.take k).map V.int)):=b2 p _ pa h1;by_cases hk:k<ns.length
 ·have hg:ns[k]? = J ns[k]:=Ø hk;have Vk:=hn _ (ą hk);obtain⟨n1,n2⟩:=Q1 Vk.1 Vk.2;rw[hc k _ hg];refine W3 n1 (λv3 H3 rh vq=>?_) rfl;have hv:v3=.bl M:=vq λ_=>False;subst hv;refine⟨M,rfl,?_⟩;refine ya rfl ?_;refine⟨λL' H'=>∃k,k+(m-1)=ns.length/\L'=[J (.ref a),J (.ref p)]/\Bt a H H'/\RD C a l ws (i+k) H'/\H' p=J (.lst ((ns.take k).map V.int)),λL' H' hW=>⟨m-1,by lia,hW⟩,?_⟩;have h3:=rh _ _ h2;have r3:=r2.keep rh;refine⟨.ref p,rfl,.inl ⟨rfl,_,eI.of h3⟩,a,l,ws,i+k,rfl,r3,a,l,ws,i+k,[],_,_,rfl,rfl,r3,⟨rfl,rfl⟩,rfl,λv4 H4 b4 r4 Sa=>?_⟩;have hv:v4=.str (cm ws (i+k)):=Sa λ_=>False;subst hv;rw[hc k _ hg];refine W3 n2 (λv5 H5 Gp XQ=>?_) rfl;have hv:v5=.int ns[k]:=XQ λ_=>False;subst hv;have h5:=Gp _ _ (b4 p _ pa h3);have r5:=r4.keep Gp;refine⟨p,_,_,rfl,rfl,h5,by rw[Æ,ÿ];exact γ (Nat.min_le_right _ _) (ć hz (by decide)),k+1,by lia,rfl,?_,?_,?_⟩
  ·exact λb o n h=>by
    rw[aL (λe=>by lia)];exact Gp _ _ (b4 b o n (rh _ _ (b2 b o n (b1 b o n h))))
  ·obtain⟨dx,o⟩:=r5.o;exact⟨⟨dx,by rw[aL (Ĝ pa)];exact o⟩,by rw[aL (Ĝ pl)];exact r5.w,r.z⟩
  ·rw[aW,ϙ hk,Ą];rfl
 ·have hk:k=ns.length:=by (simp at *;lia)
  subst hk;refine W3 hs (λv3 H3 rh vq=>?_) rfl;have hv:v3=.bl Y:=vq λ_=>False;subst hv;refine⟨Y,rfl,?_⟩;refine jf rfl ?_;have h3:=rh _ _ h2;refine⟨.ref p,rfl,p,_,rfl,.inl ⟨eI.of h3,λt nt=>?_⟩⟩;have s4:aO H3 (cT H3 t (.tup ((ns.take ns.length).map V.int))):=cK nt _;refine q _ _ (λb o n h=>s4 _ _ (rh _ _ (b2 b o n (b1 b o n h)))) ((r2.keep rh).keep s4) λA=>?_;rw[ź];exact⟨t,ns.map V.int,rfl,by rw[aW],by rw[Æ];exact ό (ć hz (by decide)),kK _⟩
end
end Hc
end
section
set_option maxHeartbeats 400000
namespace Hc
open PySem L2
section
variable {base:Í}{l:G}
theorem Bm.tu (tu:∀i u j,I i u j->gX u=M)(h:Bm ws x I i us j):jR us=M:=by
 induction h with
 |one h _=>unfold jR jR;rw[tu _ _ _ h];rfl
 |more h _ _ ih=>unfold jR;rw[tu _ _ _ h,ih];rfl
theorem AJ {D:mN}{L0:L2.St}{rest:TS}{s:Nat}{tI:TE}(h0:L0[0]? = J (J (.ref a)))(hs:s≠0)(hl:s<L0.length)(r:RD C a l ws i H)(sp:Bm ws x I i us j)(lt:us.length<1000)(O_:∀L H Q i u j,(L=L0\/∃p,L=L0.set s (J (.ref p)))->RD C a l ws i H->I i u j->(∀v H',Bt a H H'->RD C a l ws j H'->(∀A,Rp K H' A u v)->Q v H')->tI L H Q)(tu:∀i u j,I i u j->gX u=M)(fin:∀p H' xs,Bt a H H'->RD C a l ws j H'->H' p=J (.lst xs)->(∀A,ba K H' A us xs)->rest D (L0.set s (J (.ref p))) H') :
  pf (yX (Lj (dM tI g7)) (qf s)) (pf (xn (tB (tM K C 1 SD (dM (tC (.str x)) g7))) (pf (v7 (Te K "list" nJ (mO s) (dM tI g7))) vZ)) rest) D L0 H:=by
 have key:∀{i us},Bm ws x I i us j->∃u rest' j1,us=u::rest'/\I i u j1/\(rest'=[]/\j1=j/\cm ws j1≠x\/cm ws j1=x/\Bm ws x I (j1+1) rest' j):=λh=>by
  cases h with
  |one h n=>exact⟨_,[],_,rfl,h,.inl ⟨rfl,rfl,n⟩⟩
  |more h e g=>exact⟨_,_,_,rfl,h,.inr ⟨e,g⟩⟩
 have ut:=sp.tu tu;obtain⟨u,rest',j1,rfl,hI,nx⟩:=key sp;refine O_ L0 H _ i u j1 (.inl rfl) r hI λv H1 b1 r1 rv=>?_;refine⟨(show 1<=Â by decide),λp np=>?_⟩;have pa:p≠a:=λe=>by obtain⟨dx,o⟩:=r1.o;lia
 have pl:l≠p:=λz=>by
  have:=r1.w;lia
 have ZY:H p=Z:=by
  cases e:H p with
  |none=>rfl
  |some o=>rw[b1 p o pa e] at np;cases np
 have s1:aO H1 (cT H1 p (.lst [v])):=cK np _;refine⟨λm L H2=>∃done todo i1 xs,u::rest'=done++todo/\todo.length=m/\L=L0.set s (J (.ref p))/\Bt a H H2/\H2 p=J (.lst xs)/\(∀A,ba K H2 A done xs)/\RD C a l ws i1 H2/\(todo=[]/\i1=j/\cm ws i1≠x\/cm ws i1=x/\Bm ws x I (i1+1) todo j),⟨rest'.length,[u],rest',j1,[v],rfl,rfl,rfl,λb o n h=>s1 _ _ (b1 b o n h),aW,λA=>⟨v,[],rfl,(rv A).same s1,rfl⟩,r1.keep s1,nx⟩,?_⟩;rintro m L H2 ⟨done,todo,i1,xs,e,hm,rfl,b2,h2,rx,r2,nx⟩;have g0:(L0.set s (J (.ref p)))[0]? = J (J (.ref a)):=by rw[Ě hs];exact h0
 have gs:(L0.set s (J (.ref p)))[s]? = J (J (.ref p)):=Ϟ hl;refine⟨a,l,ws,i1,g0,r2,a,l,ws,i1,_,_,_,rfl,rfl,r2,⟨x,rfl,rfl,rfl⟩,rfl,λv3 H3 b3 r3 vq=>?_⟩;rcases nx with⟨rfl,rfl,ne⟩|⟨ex,sq⟩
 ·rw[hJ ne] at vq;have hv:v3=.bl Y:=vq λ_=>False;subst hv;rw[hU ne] at r3;refine⟨Y,rfl,jf rfl ?_⟩;rw[ā] at e;subst e;exact fin p H3 xs (b2.trans b3) r3 (b3 p _ pa h2) λA=>ba.tu (b3.tup r2) ut (rx A)
 ·rw[hG ex] at vq;have hv:v3=.bl M:=vq λ_=>False;subst hv;rw[hV ex] at r3;refine⟨M,rfl,ya rfl ?_⟩;obtain⟨u4,todo',j4,rfl,hI4,nx4⟩:=key sq;have h3:=b3 p _ pa h2;refine⟨λL' H'=>∃done todo i1 xs,u::rest'=done++todo/\todo.length=m-1/\L'=L0.set s (J (.ref p))/\Bt a H H'/\H' p=J (.lst xs)/\(∀A,ba K H' A done xs)/\RD C a l ws i1 H'/\(todo=[]/\i1=j/\cm ws i1≠x\/cm ws i1=x/\Bm ws x I (i1+1) todo j),λL' H' hW=>⟨m-1,by grind,hW⟩,?_⟩;refine⟨.ref p,gs,.inl ⟨rfl,_,eI.of h3⟩,?_⟩;refine O_ _ H3 _ _ u4 j4 (.inr ⟨p,rfl⟩) r3 hI4 λv5 H5 b5 r5 XQ=>?_;have h5:=b5 p _ pa h3;have td:jR done=M:=by
   rw[e] at ut;clear e rx hm
   induction done with
   |nil=>rfl
   |cons d ds ih=>
    simp_all[ϡ,jR,é]
  have ZZ:∀A,ba K H5 A done xs:=λA=>ba.tu (b5.tup r3) td (ba.tu (A':=A) (b3.tup r2) td (rx A));have lx:xs.length<Â:=by
   rw[<-(rx λ_=>False).length];have:(u::rest').length=(done++u4::todo').length:=by rw[e]
   rw[Þ] at this;exact γ (by simp[*]) (ύ lt (by decide))
  have s6:∀b o,b≠p->H5 b=J o->cT H5 p (.lst (xs++[v5])) b=J o:=λb o n h=>by rw[aL n];exact h
  have t6:∀b ys,H5 b=J (.tup ys)->cT H5 p (.lst (xs++[v5])) b=J (.tup ys):=λb ys h=>s6 b _ (λz=>by lia) h;refine⟨p,xs,v5,rfl,rfl,h5,lx,done++[u4],todo',j4,xs++[v5],by rw[e,õ];rfl,by (simp at *;lia),rfl,λb o n h=>s6 b o (λz=>by lia) (b5 b o n (b3 b o n (b2 b o n h))),aW,λA=>ba.append (ba.tu t6 td (ZZ A)) ⟨v5,[],rfl,Rp.tu t6 (tu _ _ _ hI4) (XQ A),rfl⟩,?_,nx4⟩;obtain⟨dx,o⟩:=r5.o;exact⟨⟨dx,s6 _ _ (Ĝ pa) o⟩,s6 _ _ pl r5.w,r.z⟩
end
end Hc
end
section
set_option maxHeartbeats 400000
namespace Hc
open PySem L2
section
variable {base:Í}{l:G}
def OE:az ["self","orders"] ["self"] (ag (kR 6)):=⟨rfl,rfl,rfl,by decide+kernel,rfl,by decide+kernel,by decide+kernel⟩
def OF:az ["self","depth","seen"] ["self","depth"] (ag (kR 7)):=⟨rfl,rfl,rfl,by decide+kernel,rfl,by decide+kernel,by decide+kernel⟩
def OG:az ["self","depth","ways"] ["self","depth"] (ag (kR 8)):=⟨rfl,rfl,rfl,by decide+kernel,rfl,by decide+kernel,by decide+kernel⟩
def Ed {p:G}{Q:VK}(b:Bt a H H1)(r:RD C a l ws j H1)(h:H1 p=J (.lst xs))(rx:∀A,ba K H1 A us xs)(lt:us.length<1000)(ut:jR us=M)(q:∀v H',Bt a H H'->RD C a l ws j H'->(∀A,Rp K H' A (.tup us) v)->Q v H'):∃p' ys,[V.ref p]=[.ref p']/\((eI K H1 p' ys/\∀l,H1 l=Z->Q (.ref l) (cT H1 l (.tup ys)))\/(fE K H1 p' ys/\Q (.ref p') H1)):=by
 refine⟨p,xs,rfl,.inl ⟨eI.of h,λt nt=>?_⟩⟩;have s4:aO H1 (cT H1 t (.tup xs)):=cK nt _;exact q _ _ (λb' o n h=>s4 _ _ (b b' o n h)) (r.keep s4) λA=>⟨t,xs,rfl,aW,ό (ύ lt (by decide)),ba.tu (λ_ _ h=>s4 _ _ h) ut (rx A)⟩
theorem FW (T:Txt mg)(co:CO K C ["words","at"])(Mn:RM P w K mg base C "read_numbers" 3 ["self"] 0 Bl)(Ms:RM P w K mg base C "takes" 2 ["self","word"] 1 SD)
  (hm:nI K C "read_orders" f) (F:rl K "read_orders" "Reader.read_orders" (kR 6) f fd):RM P w K mg base C "read_orders" 4 ["self"] 0 Up:=by
 refine⟨f,fd,hm,F.binds (λ_ _ _ _ _ _ us hl=>match us,hl with|[_],_=>rfl),F.ok (k:=3) OE (λvs H Q E h00=>by obtain⟨a,l,ws,i,rs,u,j,e,ln,_⟩:=h00;rw[e,Ò,ln];rfl) λbT A outer s H vs Q E hr h00=>?_⟩;obtain⟨a,l,ws,i,rs,u,j,e,ln,r,⟨us,sp,lt,hu⟩,_,q⟩:=h00;subst e hu;cases ş ln;have lD:=hr.mono (show 2<=3 by decide);have h:yP (eZ kg P w K mg base ["self","orders"] "Reader.read_orders" (ag (kR 6)) f bT A outer s H E).nox (aU (kR 6)) _:=
  aA (je (i:=1) OE.nd (Ca (bj (j_ Mn co.cl hr) bY))) (aA (uC ŀ (iV (rB Ms co.cl lD (bj eC bY)))
   (aA (jQ (pX (wv 1) (j_ Mn co.cl hr))) bz)) (aA (fo (uE T.ziq (by rfl) (wv 1))) bz))
 refine⟨_,h.un,AJ (s:=1) (L0:=[J (.ref a),Z]) (K:=K) rfl (by decide) (show 1<2 by decide) r sp lt (λL H Q i u j hσ r hI q=>?_) (λ_ _ _ h=>h.2) λp H' xs b' r' hp rx=>?_⟩
 ·refine⟨a,l,ws,i,?_,r,a,l,ws,i,[],u,j,rfl,rfl,r,hI.1,hI.2,q⟩;rcases hσ with rfl|⟨p,rfl⟩<;>rfl
 ·exact⟨.ref p,rfl,Ed b' r' hp rx lt (sp.tu λ_ _ _ h=>h.2) q⟩
theorem Q2 {n:Nat}(h3:3<=n)(co:CO K C ["words","at"])(Mn:RM P w K mg base C "read_numbers" 3 ["self"] 0 Bl)(Md:RM P w K mg base C "need" 3 ["self","word"] 1 SE)(Mp:RM P w K mg base C "read_plan" n ["self","depth"] 1 RP)(hm:nI K C "read_way" f)(F:rl K "read_way" "Reader.read_way" (kR 7) f fd):RM P w K mg base C "read_way" (n+1) ["self","depth"] 1 (QY RP):=by
 refine⟨f,fd,hm,F.binds (λ_ _ _ _ _ _ us hl=>match us,hl with|[_,_],_=>rfl),F.ok (k:=n) OF (λvs H Q E h00=>by obtain⟨a,l,ws,i,rs,u,j,e,ln,_⟩:=h00;rw[e,Ò,ln];rfl) λbT A outer s H vs Q E hr h00=>?_⟩;obtain⟨a,l,ws,i,rs,u,j,e,ln,r,⟨d,v,j1,p,hrs,hv,tv,hc,hp,tp,hu⟩,_,q⟩:=h00;subst e hu hrs;have K4:=hr.mono h3;have h:yP (eZ kg P w K mg base ["self","depth","seen"] "Reader.read_way" (ag (kR 7)) f bT A outer s H E).nox (aU (kR 7)) _:=
  aA (je (i:=2) OF.nd (j_ Mn co.cl K4)) (aA (jQ (rB Md co.cl K4 (bj eC bY))) (aA (fo (uG (bj (wv 2) (bj (rB Mp co.cl hr (bj (wv 1) bY)) bY)))) bz))
 refine⟨_,h.un,a,l,ws,i,rfl,r,a,l,ws,i,[],v,j1,rfl,rfl,r,hv,tv,λx1 H1 b1 r1 vv=>?_⟩;refine⟨a,l,ws,j1,rfl,r1,a,l,ws,j1,_,_,_,rfl,rfl,r1,⟨_,rfl,hc,rfl,rfl⟩,rfl,λx2 H2 b2 r2 nF=>?_⟩;refine⟨x1,rfl,a,l,ws,j1+1,rfl,r2,.int d,rfl,a,l,ws,j1+1,_,p,j,rfl,rfl,r2,hp,tp,λx3 H3 b3 r3 vq=>⟨(show 2<=Â by decide),λt nt=>?_⟩⟩;have s4:aO H3 (cT H3 t (.tup [x1,x3])):=cK nt _;refine q _ _ (λb' o n h=>s4 _ _ (b3 b' o n (b2 b' o n (b1 b' o n h)))) (r3.keep s4) λA=>⟨t,_,rfl,aW,(show 2<=Â by decide),?_⟩;refine⟨x1,_,rfl,Rp.tu (λ_ _ h=>s4 _ _ h) tv (Rp.tu (A':=A) (b3.tup r2) tv (Rp.tu (A':=A) (b2.tup r1) tv (vv A))),x3,[],rfl,Rp.tu (λ_ _ h=>s4 _ _ h) tp (vq A),rfl⟩
theorem Mx {n:Nat}(h3:3<=n)(T:Txt mg)(co:CO K C ["words","at"])(Ms:RM P w K mg base C "takes" 2 ["self","word"] 1 SD)(Md:RM P w K mg base C "need" 3 ["self","word"] 1 SE)(Mw:RM P w K mg base C "read_way" n ["self","depth"] 1 (QY RP))(hm:nI K C "read_ways" f)(F:rl K "read_ways" "Reader.read_ways" (kR 8) f fd):RM P w K mg base C "read_ways" (n+1) ["self","depth"] 1 (VE RP):=by
 refine⟨f,fd,hm,F.binds (λ_ _ _ _ _ _ us hl=>match us,hl with|[_,_],_=>rfl),F.ok (k:=n) OG (λvs H Q E h00=>by obtain⟨a,l,ws,i,rs,u,j,e,ln,_⟩:=h00;rw[e,Ò,ln];rfl) λbT A outer s H vs Q E hr h00=>?_⟩;obtain⟨a,l,ws,i,rs,u,j,e,ln,r,⟨d,us,j2,hrs,hc,sp,lt,hc2,hj,hu⟩,_,q⟩:=h00;subst e hu hrs hj;have K4:=hr.mono h3;have h:yP (eZ kg P w K mg base ["self","depth","ways"] "Reader.read_ways" (ag (kR 8)) f bT A outer s H E).nox (aU (kR 8)) _:=
  aA (jQ (rB Md co.cl K4 (bj eC bY))) (aA (je (i:=2) OG.nd (Ca (bj (rB Mw co.cl hr (bj (wv 1) bY)) bY))) (aA (uC ŀ (iV (rB Ms co.cl (hr.mono (ä (by decide) h3)) (bj eC bY)))
   (aA (jQ (pX (wv 2) (rB Mw co.cl hr (bj (wv 1) bY)))) bz)) (aA (jQ (rB Md co.cl K4 (bj eC bY))) (aA (fo (uE T.ziq (by rfl) (wv 2))) bz))))
 refine⟨_,h.un,a,l,ws,i,rfl,r,a,l,ws,i,_,_,_,rfl,rfl,r,⟨_,rfl,hc,rfl,rfl⟩,rfl,λx1 H1 b1 r1 vv=>?_⟩;show pf (yX (Lj (dM (tM K C 1 (QY RP) (dM (mO 1) g7)) g7)) (qf 2)) (pf (xn (tB (tM K C 1 SD (dM (tC (.str ";")) g7))) (pf (v7 (Te K "list" nJ (mO 2) (dM (tM K C 1 (QY RP) (dM (mO 1) g7)) g7))) vZ)) (pf (v7 (tM K C 1 SE (dM (tC (.str ")")) g7))) (pf (K9 (PD _ (dM (mO 2) g7))) vZ))) {nx:=λ_ H'=>Q .non H',rt:=Q} [J (.ref a),J (.int d),Z] H1;refine AJ (s:=2) (L0:=[J (.ref a),J (.int d),Z]) (K:=K) rfl (by decide) (show 2<3 by decide) r1 sp lt (λL H Q i u j hσ r hI q=>?_) (λ_ _ _ h=>h.2) λp H' xs b' r' hp rx=>?_
 ·refine⟨a,l,ws,i,?_,r,.int d,?_,a,l,ws,i,_,u,j,rfl,rfl,r,hI.1,hI.2,q⟩
  ·rcases hσ with rfl|⟨p,rfl⟩<;>rfl
  ·rcases hσ with rfl|⟨p,rfl⟩<;>rfl
 ·refine⟨a,l,ws,j2,rfl,r',a,l,ws,j2,_,_,_,rfl,rfl,r',⟨_,rfl,hc2,rfl,rfl⟩,rfl,λx3 H3 b3 r3 vq=>?_⟩;have ut:=sp.tu λ_ _ _ h=>h.2;have pa:p≠a:=λe=>by obtain⟨dx,o⟩:=r'.o;lia
  exact⟨.ref p,rfl,Ed ((b1.trans b').trans b3) r3 (b3 p _ pa hp) (λA=>ba.tu (b3.tup r') ut (rx A)) lt ut q⟩
end
end Hc
end
section
set_option maxHeartbeats 400000
namespace Hc
open PySem L2
section
variable {base:Í}{l:G}
def My {i:Int}{p:Pos}{t:Tok}(hm:X.mg x=J (.int i t))(hg:Gl X x:=by rfl)(hd:(x==("__debug__":Str))=Y:=by decide):WE X (.Name x p) (tC (.int i)):=⟨λpins s L H Q I h=>lG I hg hm ⟨.int i,H,I,⟨_,rfl⟩,h⟩ hd⟩
noncomputable abbrev nP:List Str:=["self","depth","form","places","orders"]
def Ee:az nP ["self","depth"] (ag (kR 9)):=⟨rfl,rfl,rfl,by decide+kernel,rfl,by decide+kernel,by decide+kernel⟩
def yq {Q:VK}(b:Bt a H H1)(r:RD C a l ws j H1)(rx:∀A,ba K H1 A us xs)(ut:jR us=M)(lt:us.length<=9)(q:∀v H',Bt a H H'->RD C a l ws j H'->(∀A,Rp K H' A (.tup us) v)->Q v H'):xs.length<=Â/\∀p,H1 p=Z->Q (.ref p) (cT H1 p (.tup xs)):=by
 have lz:us.length<=Â:=ä lt (by decide);refine⟨by rw[<-(rx λ_=>False).length];exact lz,λt nt=>?_⟩;have s4:aO H1 (cT H1 t (.tup xs)):=cK nt _;exact q _ _ (λb' o n h=>s4 _ _ (b b' o n h)) (r.keep s4) λA=>⟨t,xs,rfl,aW,lz,ba.tu (λ_ _ h=>s4 _ _ h) ut (rx A)⟩
theorem JJ {n:Nat}(h4:4<=k){tk:Tok}(hW:mg "MOST_WITHIN"=J (.int 12 tk))(co:CO K C ["words","at"])(Mt:RM P w K mg base C "take" 2 ["self"] 0 W2)(Mn:RM P w K mg base C "read_numbers" 3 ["self"] 0 Bl)(Mo:RM P w K mg base C "read_orders" 4 ["self"] 0 Up)(Md:RM P w K mg base C "need" 3 ["self","word"] 1 SE)(Mw:RM P w K mg base C "read_ways" k ["self","depth"] 1 (VE (Gn n)))(Mp:RM P w K mg base C "read_plan" k ["self","depth"] 1 (Gn n))(hm:nI K C "read_plan" f)(F:rl K "read_plan" "Reader.read_plan" (kR 9) f fd):RM P w K mg base C "read_plan" (k+1) ["self","depth"] 1 (Gn (n+1)):=by
 refine⟨f,fd,hm,F.binds (λ_ _ _ _ _ _ us hl=>match us,hl with|[_,_],_=>rfl),F.ok (k:=k) Ee (λvs H Q E h00=>by obtain⟨a,l,ws,i,rs,u,j,e,ln,_⟩:=h00;rw[e,Ò,ln];rfl) λbT A outer s H vs Q E hr h00=>?_⟩;obtain⟨a,l,ws,i,rs,u,j,e,ln,r,⟨d,hrs,hd,cs⟩,tu,q⟩:=h00;subst e hrs;have U9:=hr.mono h4;have K4:=U9.mono (show 3<=4 by decide);have lD:=U9.mono (show 2<=4 by decide);have h:yP (eZ kg P w K mg base nP "Reader.read_plan" (ag (kR 9)) f bT A outer s H E).nox (aU (kR 9)) _:=
  aA (kT (Ul (wv 1) (My hW)) (aA uH bz) bz)
  (aA (je (i:=2) Ee.nd (j_ Mt co.cl lD))
  (aA (kT (Ea (wv 2) eC) (aA (fo (uG (bj eC bY))) bz) bz)
  (aA (kT (Ea (wv 2) eC) (aA (fo (uG (bj eC (bj (j_ Mn co.cl K4) bY)))) bz) bz)
  (aA (kT (Ea (wv 2) eC) (aA (je (i:=3) Ee.nd (j_ Mn co.cl K4)) (aA (fo (uG (bj eC (bj (wv 3) (bj (rB Mw co.cl hr (bj (Jw (wv 1) uF) bY)) bY))))) bz)) bz)
  (aA (kT (QS (Am (wv 2) eC) (Am (wv 2) eC)) (aA uH bz) bz)
  (aA (je (i:=4) Ee.nd (Oy (Ea (wv 2) eC) (j_ Mn co.cl K4) (j_ Mo co.cl U9)))
  (aA (jQ (rB Md co.cl K4 (bj eC bY)))
  (aA (fo (uG (bj (wv 2) (bj (wv 4) (bj (rB Mp co.cl hr (bj (Jw (wv 1) uF) bY)) bY))))) bz))))))))
 refine⟨_,h.un,.int d,rfl,d,12,rfl,rfl,_,rfl,jf (by simpa using hd) ?_⟩;refine⟨a,l,ws,i,rfl,r,a,l,ws,i,[],_,_,rfl,rfl,r,⟨rfl,rfl⟩,rfl,λv1 H1 b1 r1 vv=>?_⟩;have hv:v1=.str (cm ws i):=vv λ_=>False;subst hv;rcases cs with⟨hc,rfl,rfl⟩|⟨hc,v,hn,tv,rfl⟩|⟨hc,v,j1,p,hn,tv,hp,tp,rfl⟩|⟨hc,v,j1,p,hn,tv,h1,hp,tp,rfl⟩
 ·rw[hc];refine⟨_,rfl,rfl,_,rfl,ya (by rfl) ?_⟩;exact yq (K:=K) (us:=[.str "again"]) b1 r1 (λA=>⟨_,_,rfl,rfl,rfl⟩) rfl (by simp) q
 ·rw[hc];refine⟨_,rfl,rfl,_,rfl,jf (by rfl) ?_⟩;refine⟨_,rfl,rfl,_,rfl,ya (by rfl) ?_⟩;refine⟨a,l,ws,i+1,rfl,r1,a,l,ws,i+1,[],v,j,rfl,rfl,r1,hn,tv,λv2 H2 b2 r2 nF=>?_⟩;exact yq (K:=K) (us:=[.str "end",v]) (b1.trans b2) r2 (λA=>⟨_,_,rfl,rfl,_,_,rfl,nF A,rfl⟩) (by simp[jR,gX,tv]) (by simp) q
 ·rw[hc];refine⟨_,rfl,rfl,_,rfl,jf (by rfl) ?_⟩;refine⟨_,rfl,rfl,_,rfl,jf (by rfl) ?_⟩;refine⟨_,rfl,rfl,_,rfl,ya (by rfl) ?_⟩;refine⟨a,l,ws,i+1,rfl,r1,a,l,ws,i+1,[],v,j1,rfl,rfl,r1,hn,tv,λv2 H2 b2 r2 nF=>?_⟩;refine⟨v2,rfl,a,l,ws,j1,rfl,r2,.int d,rfl,d,1,rfl,rfl,a,l,ws,j1,_,p,j,rfl,rfl,r2,hp,tp,λv3 H3 b3 r3 vq=>?_⟩;exact yq (K:=K) (us:=[.str "look",v,p]) ((b1.trans b2).trans b3) r3 (λA=>⟨_,_,rfl,rfl,_,_,rfl,Rp.tu (b3.tup r2) tv (nF A),_,_,rfl,vq A,rfl⟩) (by simp[jR,gX,tv,tp]) (by simp) q
 ·have e1:∀x:Str,x="lay"\/x="mix"->(decide (V.str x=V.str "again")=Y/\decide (V.str x=V.str "end")=Y/\decide (V.str x=V.str "look")=Y):=by
   intro x hx;rcases hx with rfl|rfl<;>decide+kernel
  obtain⟨f1,f2,f3⟩:=e1 _ hc;refine⟨_,rfl,rfl,_,rfl,jf f1 ?_⟩;refine⟨_,rfl,rfl,_,rfl,jf f2 ?_⟩;refine⟨_,rfl,rfl,_,rfl,jf f3 ?_⟩;have rest:∀v2 H2,Bt a H1 H2->RD C a l ws j1 H2->(∀A,Rp K H2 A v v2)->(pf (v7 (tM K C 1 SE (dM (tC (.str ":")) g7))) (pf (K9 (PB (dM (mO 2) (dM (mO 4) (dM (tM K C 1 (Gn n) (dM (Gg (xp λi j=>.int (i+j)) (mO 1) (tC (.int 1))) g7)) g7))))) vZ)) {nx:=λ_ H'=>Q .non H',rt:=Q} [J (.ref a),J (.int d),J (.str (cm ws i)),Z,J v2] H2:=by
   intro v2 H2 b2 r2 nF;refine⟨a,l,ws,j1,rfl,r2,a,l,ws,j1,_,_,_,rfl,rfl,r2,⟨_,rfl,h1,rfl,rfl⟩,rfl,λv3 H3 b3 r3 vq=>?_⟩;refine⟨_,rfl,v2,rfl,a,l,ws,j1+1,rfl,r3,.int d,rfl,d,1,rfl,rfl,a,l,ws,j1+1,_,p,j,rfl,rfl,r3,hp,tp,λv4 H4 b4 r4 Sa=>?_⟩;exact yq (K:=K) (us:=[.str (cm ws i),v,p]) (((b1.trans b2).trans b3).trans b4) r4 (λA=>⟨_,_,rfl,rfl,_,_,rfl,Rp.tu (b4.tup r3) tv (Rp.tu (A':=A) (b3.tup r2) tv (nF A)),_,_,rfl,Sa A,rfl⟩) (by simp[jR,gX,tv,tp]) (by simp) q
  by_cases hl:cm ws i="lay"
  ·rw[hV hl] at hn;have g1:(!decide (V.str (cm ws i)=V.str "lay"))=Y:=by lia
   have g2:decide (V.str (cm ws i)=V.str "lay")=M:=by lia
   refine⟨_,rfl,rfl,_,rfl,jf g1 (jf rfl ?_)⟩;refine⟨_,rfl,rfl,_,rfl,ya g2 ?_⟩;exact⟨a,l,ws,i+1,rfl,r1,a,l,ws,i+1,[],v,j1,rfl,rfl,r1,hn,tv,λv2 H2 b2 r2 nF=>rest v2 H2 b2 r2 nF⟩
  ·rw[hU hl] at hn;have hx:=hc.resolve_left hl;have g1:(!decide (V.str (cm ws i)=V.str "lay"))=M:=by rw[hx];decide+kernel
   have g2:decide (V.str (cm ws i)=V.str "lay")=Y:=by lia
   have g3:(!decide (V.str (cm ws i)=V.str "mix"))=Y:=by rw[hx];decide+kernel
   refine⟨_,rfl,rfl,_,rfl,ya g1 ?_⟩;refine⟨_,rfl,rfl,_,rfl,jf g3 ?_⟩;refine⟨_,rfl,rfl,_,rfl,jf g2 ?_⟩;exact⟨a,l,ws,i+1,rfl,r1,a,l,ws,i+1,[],v,j1,rfl,rfl,r1,hn,tv,λv2 H2 b2 r2 nF=>rest v2 H2 b2 r2 nF⟩
end
end Hc
end
section
set_option maxHeartbeats 400000
namespace Hc
open PySem L2
def Q3 (C:G):Sp:=λvs H Q _=>∃a dx x,vs=[.ref a,.str x]/\H a=J (.ins C dx [])/\Mqz x/\∀l H',Bt a H H'->RD C a l (my x) 0 H'->Q .non H'
section
variable {base:Í}{l:G}
def Ut:az ["self","text"] ["self","text"] (ag (kR 0)):=⟨rfl,rfl,rfl,by decide+kernel,rfl,by decide+kernel,by decide+kernel⟩
def Mz {o:É}{ta:TE}{f:Str}{i:Int}{j}{q r d:Pos}(h0:WE X o ta):WS X (.Assign [.Attribute o f r] (.Constant (.int i) j q) d) (Pu X.K ta (tC (.int i)) f):=⟨Px h0.un Bq rfl⟩
theorem AK (co:CO K C ["words","at"])(F:rl K "__init__" "Reader.__init__" (kR 0) f fd):fc P w K mg base kg 1 f fd ["self","text"] (Q3 C):=by
 refine F.okT Ut (by rfl) (λvs H Q E ⟨a,dx,x,e,_⟩=>by rw[e];rfl) λbT A outer s H vs Q E hr h00=>?_;obtain⟨a,dx,x,e,ha,ft,q⟩:=h00;subst e;have h:QV (eZ kg P w K mg base ["self","text"] "Reader.__init__" (ag (kR 0)) f bT A outer s H E).nox (aU (kR 0)) _:=
  JB (Mm (wv 0) (FI (An (An (QW (wv 1)))))) (aA (Mz (wv 0)) bz)
 refine⟨_,h,.str x,rfl,x,rfl,ft.l0,OA x,rfl,ft.l1,rfl,Ec x,rfl,rfl,ft.l2,ft.l3,λl nl=>?_⟩;have la:l≠a:=λe=>by lia
 have h1:cT H l (.lst ((my x).map V.str)) a=J (.ins C dx []):=by rw[aL (Ĝ la)];exact ha
 refine⟨.ref a,rfl,a,C,dx,[],rfl,h1,co.cl,co.no _ (by simp),by decide,?_⟩;refine⟨.ref a,rfl,a,C,dx,_,rfl,aW,co.cl,co.no _ (by simp),(show 1<1000 by decide),?_⟩;refine q l _ (λb o n h=>?_) ⟨⟨dx,?_⟩,?_,ft.l4⟩
 ·rw[aL n,aL n,aL (λe=>by lia)];exact h
 ·rw[aW];rfl
 ·rw[aL la,aL la,aW];rfl
end
end Hc
end
section
set_option maxHeartbeats 400000
namespace Hc
open PySem L2
def Rm (K:Ê)(C:G)(m q:Str)(j:Nat):Prop:=∃f fd,nI K C m f/\rl K m q (kR j) f fd
structure SG (P:ø)(w:ß)(K:Ê)(mg:Str->Option F)(C:G):Prop where
 co:CO K C ["words","at"]
 mr:mg "Reader"=J (.ref C)
 mi:∃f fd,Mk K C f/\rl K "__init__" "Reader.__init__" (kR 0) f fd
 m1:Rm K C "coming" "Reader.coming" 1
 m2:Rm K C "take" "Reader.take" 2
 m3:Rm K C "takes" "Reader.takes" 3
 m4:Rm K C "need" "Reader.need" 4
 m5:Rm K C "read_numbers" "Reader.read_numbers" 5
 m6:Rm K C "read_orders" "Reader.read_orders" 6
 m7:Rm K C "read_way" "Reader.read_way" 7
 m8:Rm K C "read_ways" "Reader.read_ways" 8
 m9:Rm K C "read_plan" "Reader.read_plan" 9
 d1:Df K mg "is_number" FV
 d2:Df K mg "number_of" AI
 tab:vG P w K mg "FIGURES" Cb
section
variable {base:Í}{l:G}
theorem AL (T:Txt mg)(X:SG P w K mg C):RM P w K mg base C "read_numbers" 3 ["self"] 0 Bl:=by
 obtain⟨_,_,a1,b1⟩:=X.m1;obtain⟨_,_,a2,b2⟩:=X.m2;obtain⟨_,_,a5,b5⟩:=X.m5;have Mc:=xg (P:=P) (w:=w) (base:=base) T X.co a1 b1;exact JI T X.co (Q0 T X.tab X.d1) (Mv T X.tab X.d2) Mc (AH X.co Mc a2 b2) a5 b5
theorem xh (T:Txt mg)(X:SG P w K mg C):∀n,RM P w K mg base C "read_plan" (4+3*n) ["self","depth"] 1 (Gn n)
 |0=>by
  obtain⟨f,fd,a9,b9⟩:=X.m9;have no:∀vs H Q E,¬Um K C 1 (Gn 0) vs H Q E:=λvs H Q E ⟨_,_,_,_,_,_,_,_,_,_,h,_⟩=>h;exact⟨f,fd,a9,b9.binds (λ_ _ _ _ _ _ us hl=>match us,hl with|[_,_],_=>rfl),λvs H Q E h=>(no _ _ _ _ h).elim,λ_ _ _ _ _ _ _ _ _ _ _ _ _ h=>(no _ _ _ _ h).elim⟩
 |n+1=>by
  obtain⟨_,_,a1,b1⟩:=X.m1;obtain⟨_,_,a2,b2⟩:=X.m2;obtain⟨_,_,a3,b3⟩:=X.m3;obtain⟨_,_,a4,b4⟩:=X.m4;obtain⟨_,_,a6,b6⟩:=X.m6;obtain⟨_,_,a7,b7⟩:=X.m7;obtain⟨_,_,a8,b8⟩:=X.m8;obtain⟨_,_,a9,b9⟩:=X.m9;obtain⟨tk,hW⟩:=T.zbq;have Mp:=xh T X n;have Mn:=AL (P:=P) (w:=w) (base:=base) T X;have Mc:=xg (P:=P) (w:=w) (base:=base) T X.co a1 b1;have Mt:=AH X.co Mc a2 b2;have Ms:=JH X.co Mc a3 b3;have Md:=Mr X.co Ms a4 b4;have Mo:=FW T X.co Mn Ms a6 b6;have Mw:=Mx (ä (by decide) (İ 4 _):3<=4+(3*n+1)) T X.co Ms Md (Q2 (ä (by decide) (İ 4 _):3<=4+3*n) X.co Mn Md Mp a7 b7) a8 b8;exact JJ (k:=4+3*n+2) (by lia) hW X.co Mt Mn Mo Md Mw (Mp.mono (by lia)) a9 b9
section
variable {e o:É}{to:TE}{tl:TA}{m:Str}{p p1 cO:Pos}{n:Nat}
def JK (zi:X.mg "isinstance"=Z)(zt:X.mg "str"=Z)(h:WE X e te)(hg:Gl X "isinstance":=by rfl)(ht:Gl X "str":=by rfl)
  (hs:Ç [e,.Name "str" p2] X.env=(Y,Ì e X.env)::Ç [.Name "str" p2] X.env:=by rfl) (iK:Ç [.Name "str" p2] X.env=(Y,Ì (.Name "str" p2) X.env)::Ç [] X.env:=by rfl) (jh:(ã pos (Ç [.Name "str" p2] X.env)).any (·.1)=Y:=by rfl) :
  WE X (.Call (.Name "isinstance" p1) [e,.Name "str" p2] [] pos) (PD (λxs H Q=>∃x n,xs=[x,.ty "str"]/\y_ X.K H x n/\Q (.bl (kC n "str")) H) (dM te (dM (tC (.ty "str")) g7))):=
 ⟨jk (qk (by decide)) hg zi mf (df h.un (df (CJ (v:=.ty "str") ht zt xB rfl (by decide) (by decide)) gm iK) hs) (by decide) (by decide) hs jh⟩
def OH {fi:G}{VU:ĭ}(Mq:Mk X.K C fi)(F:fc X.prog X.w X.K X.mg X.base kg k fi VU ["self","text"] (Q3 C))(hr:cI (k+1) X.A)(hm:X.mg x=J (.ref C))(hb:jj X.K VU ["self","text"] [])(h:WE X e te)(hg:Gl X x:=by rfl)(vW:(x==("__debug__":Str))=Y:=by decide)
  (he:Ç [e] X.env=(Y,Ì e X.env)::Ç [] X.env:=by rfl):WE X (.Call (.Name x p) [e] [] pos) (Nk C (Q3 C) [] E0 (dM te g7)):=
 ⟨Ll Mq F hr hg hm hb .nil wo (df h.un gm he) vW he rfl⟩
theorem Uu {R:RR}(Mq:RM X.prog X.w X.K X.mg X.base C m k ps n R)(c:Bi X.K C)(hr:cI k X.A)(ho:WE X o to)(h:WA X (e::es) tl)(gE:Ç (e::es) X.env=(Y,Ì e X.env)::Ç es X.env:=by rfl)(jh:(ã pos (Ç es X.env)).any (·.1)=Y:=by rfl)(ht:Ì (.Call (.Attribute o m cO) (e::es) [] pos) X.env=(do
   let ov ←Ì o X.env
   standAt cO.atName
   let (f,first) ←ę [ov] (ŝ ov m pl)
   callWith pos f first (ã pos (Ç (e::es) X.env)) (ĥ pos (ģ [] X.env))):=by rfl):WE X (.Call (.Attribute o m cO) (e::es) [] pos) (CQ C m (Um X.K C n R) [] E0 to tl):=by
 obtain⟨f,fd,hm,hb,F⟩:=Mq.ex;exact⟨CS ho.un c hm F hr hb .nil wo h.un gE jh ht⟩
theorem Q4 {R:RR}(Mq:RM X.prog X.w X.K X.mg X.base C m k ps n R)(c:Bi X.K C)(hr:cI k X.A)(ho:WE X o to)(ht:Ì (.Call (.Attribute o m cO) [] [] pos) X.env=(do
   let ov ←Ì o X.env
   standAt cO.atName
   let (f,first) ←ę [ov] (ŝ ov m pl)
   callWith pos f first (ã pos (Ç [] X.env)) (ĥ pos (ģ [] X.env))):=by rfl):WE X (.Call (.Attribute o m cO) [] [] pos) (CQ C m (Um X.K C n R) [] E0 to g7):=by
 obtain⟨f,fd,hm,hb,F⟩:=Mq.ex;exact⟨y3 ho.un c hm F hr hb .nil wo ht⟩
def OI {a b:É}{td:TT}(ha:WT X a tc)(hb:WT X b td):WT X (.BoolOp .Or [a,b] pos) (V1 tc td):=⟨PW.pt (Nh ha.un (Gv hb.un))⟩
end
def VG {f:List U->R U}{Q:VK}{n:Nat}(r:∀A,ba K H A us vs)(e:f us=.ok u)(hn:us.length=n)(q:∀v H',aO H H'->(∀A,Rp K H' A u v)->Q v H')(hu:gX u=M):ji K n f .S (vs++[]) H Q E0:=
 ⟨us,λ_=>False,by rw[ā];exact r _,λ_ h=>h.elim,by
  show E2 K .S _ H (tj n f us) Q;unfold tj;rw[hV hn,e];exact λv H' sm rv=>q v H' sm λA=>Rp.tu (λ_ _ h=>h) hu rv⟩
theorem yt (T:Txt mg)(XT:SG P w K mg C)(FP:Fn P w K mg base "is_plan" 6 ["thing","many"] (ji K 2 dA .S))(FT:∀n,Fn P w K mg base "plan_text" (n+2) ["plan"] (ji K 1 (aR n) .S))(d:Df K mg "plan_read" gY) :
  Fn P w K mg base "plan_read" 23 ["text","many"] (ji K 2 dW .S):=by
 have hl:∀(us:List U) (A:G->Prop) (H:Hp) (Q:VK),E2 K .S A H (tj 2 dW us) Q->us.length=2:=λus A H Q h=>by
  unfold tj at h;split at h
  ·assumption
  ·exact h.elim
 refine Df.fn (N:=["text","many","plan"]) (k:=22) d oQ ym (λvs H Q E ⟨us,A,r,_,h⟩=>by rw[<-r.length];exact hl us A H Q h) λf bT A outer s H vs Q E hr h00=>?_;obtain⟨us,A0,r,mu,h⟩:=h00;have l:=hl us A0 H Q h;unfold tj at h;rw[hV l] at h;unfold dW at h;split at h
 ·rename_i x m;split at h
  ·rename_i hx;have hs:=hx.choose_spec;generalize hx.choose=u at h hs;obtain⟨⟨ft,⟨j,hR⟩,tu⟩,hp,ht⟩:=hs;obtain⟨v1,_,rfl,z1,v2,_,rfl,z2,z3⟩:=r;have z1:v1=.str x:=z1;have z2:v2=.int m:=z2;unfold ba at z3;subst z1 z2 z3;obtain⟨fi,VU,Mi,Fi⟩:=XT.mi;have hW:yP (eZ kg P w K mg base ["text","many","plan"] "plan_read" (ag gY) f bT A outer s H E).nox (aU gY) _:=
    aA (kT (uD (iV (JK T.zdq T.zsq (wv 0)))) (aA uH bz) bz)
    (aA (je (i:=2) oQ.nd (Uu (xh (P:=P) (w:=w) (base:=base) T XT 5) XT.co.cl (hr.mono (by decide)) (OH Mi (AK (P:=P) (w:=w) (mg:=mg) (base:=base) XT.co Fi) (hr.mono (by decide)) XT.mr (Fi.binds (λ_ _ _ _ _ _ us hl=>match us,hl with|[_,_],_=>rfl)) (wv 0)) (bj uF bY)))
    (aA (kT (OI (uD (iV (xb FP (hr.mono (by decide)) (bj (wv 2) (bj (wv 1) bY))))) (Am (xb (FT 20) (hr.mono (by decide)) (bj (wv 2) bY)) (wv 0))) (aA uH bz) bz)
    (aA (fo (wv 2)) bz)))
   refine⟨_,hW.un,.str x,rfl,.str x,"str",rfl,.str x,_,rfl,jf (by decide) ?_⟩;refine⟨.str x,rfl,λa dx na XR ne=>⟨a,dx,x,rfl,aW,ft,λl H1 b1 r1=>⟨rfl,?_⟩⟩⟩;obtain⟨dx1,o1⟩:=r1.o;refine⟨a,dx1,_,rfl,o1,rfl,a,l,_,0,[.int 1],u,j,rfl,rfl,r1,hR,tu,λv H2 b2 r2 rv=>?_⟩;have sm:aO H H2:=λb o hb=>by
    have e1:b≠a:=λz=>by lia
    have e2:b≠dx:=λz=>by lia
    exact b2 b o e1 (b1 b o e1 (by rw[aL e1,aL e2];exact hb))
   refine⟨v,rfl,.int m,rfl,?_⟩;refine VG (us:=[u,.int m]) (λA=>⟨_,_,rfl,rv A,_,_,rfl,rfl,rfl⟩) hp rfl (λv3 H3 rh vq=>?_) rfl;have hv:v3=.bl M:=vq λ_=>False;subst hv;refine⟨M,rfl,jf rfl ?_⟩;refine⟨v,rfl,?_⟩;refine VG (us:=[u]) (λA=>⟨_,_,rfl,Rp.tu (λ_ _ h=>rh _ _ h) tu (rv A),rfl⟩) ht rfl (λv4 H4 Vl Sa=>?_) rfl;have hv:v4=.str x:=Sa λ_=>False;subst hv;refine⟨.str x,rfl,rfl,_,rfl,jf (by simp) ?_⟩;exact⟨v,rfl,h v H4 (λb o hb=>Vl _ _ (rh _ _ (sm b o hb))) (Rp.tu (λ_ _ h=>Vl _ _ h) tu (Rp.tu (A':=A0) (λ_ _ h=>rh _ _ h) tu (rv A0)))⟩
  ·exact h.elim
 ·exact h.elim
theorem AM (T:Txt mg)(XT:SG P w K mg C)(FP:Fn P w K mg base "is_row" 3 ["thing"] (ji K 1 f9 .S))(FT:Fn P w K mg base "row_text" 1 ["row"] (ji K 1 cv .S))(d:Df K mg "row_read" jx) :
  Fn P w K mg base "row_read" 4 ["text"] (ji K 1 fM .S):=by
 have hl:∀(us:List U) (A:G->Prop) (H:Hp) (Q:VK),E2 K .S A H (tj 1 fM us) Q->us.length=1:=λus A H Q h=>by
  unfold tj at h;split at h
  ·assumption
  ·exact h.elim
 refine Df.fn (N:=["text","row"]) (k:=3) d qS AE (λvs H Q E ⟨us,A,r,_,h⟩=>by rw[<-r.length];exact hl us A H Q h) λf bT A outer s H vs Q E hr h00=>?_;obtain⟨us,A0,r,mu,h⟩:=h00;have l:=hl us A0 H Q h;unfold tj at h;rw[hV l] at h;unfold fM at h;split at h
 ·rename_i x;split at h
  ·rename_i hx;have hs:=hx.choose_spec;generalize hx.choose=u at h hs;obtain⟨⟨ft,⟨j,hR⟩,tu⟩,hp,ht⟩:=hs;obtain⟨v1,_,rfl,z1,z3⟩:=r;have z1:v1=.str x:=z1;unfold ba at z3;subst z1 z3;obtain⟨fi,VU,Mi,Fi⟩:=XT.mi;have hW:yP (eZ kg P w K mg base ["text","row"] "row_read" (ag jx) f bT A outer s H E).nox (aU jx) _:=
    aA (kT (uD (iV (JK T.zdq T.zsq (wv 0)))) (aA uH bz) bz)
    (aA (je (i:=1) qS.nd (Q4 (AL (P:=P) (w:=w) (base:=base) T XT) XT.co.cl (hr.mono (by decide)) (OH Mi (AK (P:=P) (w:=w) (mg:=mg) (base:=base) XT.co Fi) (hr.mono (by decide)) XT.mr (Fi.binds (λ_ _ _ _ _ _ us hl=>match us,hl with|[_,_],_=>rfl)) (wv 0))))
    (aA (kT (OI (uD (iV (xb FP (hr.mono (by decide)) (bj (wv 1) bY)))) (Am (xb FT (hr.mono (by decide)) (bj (wv 1) bY)) (wv 0))) (aA uH bz) bz)
    (aA (fo (wv 1)) bz)))
   refine⟨_,hW.un,.str x,rfl,.str x,"str",rfl,.str x,_,rfl,jf (by decide) ?_⟩;refine⟨.str x,rfl,λa dx na XR ne=>⟨a,dx,x,rfl,aW,ft,λl H1 b1 r1=>⟨rfl,?_⟩⟩⟩;obtain⟨dx1,o1⟩:=r1.o;refine⟨a,dx1,_,rfl,o1,rfl,a,l,_,0,[],u,j,rfl,rfl,r1,hR,tu,λv H2 b2 r2 rv=>?_⟩;have sm:aO H H2:=λb o hb=>by
    have e1:b≠a:=λz=>by lia
    have e2:b≠dx:=λz=>by lia
    exact b2 b o e1 (b1 b o e1 (by rw[aL e1,aL e2];exact hb))
   refine⟨v,rfl,?_⟩;refine VG (us:=[u]) (λA=>⟨_,_,rfl,rv A,rfl⟩) hp rfl (λv3 H3 rh vq=>?_) rfl;have hv:v3=.bl M:=vq λ_=>False;subst hv;refine⟨M,rfl,jf rfl ?_⟩;refine⟨v,rfl,?_⟩;refine VG (us:=[u]) (λA=>⟨_,_,rfl,Rp.tu (λ_ _ h=>rh _ _ h) tu (rv A),rfl⟩) ht rfl (λv4 H4 Vl Sa=>?_) rfl;have hv:v4=.str x:=Sa λ_=>False;subst hv;refine⟨.str x,rfl,rfl,_,rfl,jf (by simp) ?_⟩;exact⟨v,rfl,h v H4 (λb o hb=>Vl _ _ (rh _ _ (sm b o hb))) (Rp.tu (λ_ _ h=>Vl _ _ h) tu (Rp.tu (A':=A0) (λ_ _ h=>rh _ _ h) tu (rv A0)))⟩
  ·exact h.elim
 ·exact h.elim
end
end Hc
end
section
set_option maxHeartbeats 400000
namespace L2
open PySem PySem.Spec PyProof.Rows PySem.W
inductive xi (K:Ê)(C:G):List Str->Prop
 |nil:xi K C []
 |cons {f:Str} {fs:List Str}:ğ K (.ref C) f=J Z->xi K C fs->xi K C (f::fs)
theorem xi.all {fs:List Str}(h:xi K C fs):∀f∈fs,jD K C f:=by
 induction h with
 |nil=>simp
 |cons a _ ih=>
  intro f hf;rcases à.mp hf with rfl|hf
  ·exact a
  ·exact ih f hf
inductive VH (K:Ê)(c q:Str)(st:Ô)(fs:List Str):Prop
 |mk {C f:G} {od an:Option G} {sl:Array (Option F)} {oc kV dc pm cd ct:F}:û K ç c=J (J (.ref C))->PySem.W.makesIn K C=M->ğ K (.ref C) "__init__"=J (J (.ref f))->ϊ K (.ref f)=M->Ń K (.ref C)=M->
  ω K C č=M->ϫ K C=M->afx K C=M->ğ K (.ref C) "__setattr__"=J (J (.builtin "object.__setattr__"))->
  K.lookup f=J ⟨oc,od,.func (Ĉ "__init__" q (di st) (aU st) (ag st) .none kV dc pm an cd ct),sl⟩->ż K cd q=M->Ń K (.ref f)=M->xi K C fs->VH K c q st fs
theorem Uv {c q:Str}{fs:List Str}(k:VH K c q st fs)(X:K.In h)(G:h.Ns ç mg)(nd:fs.Nodup:=by decide+kernel):WY K mg c q st fs:=by
 obtain⟨a,b,d,e,g,i,j,k,l,m,n,o,p⟩:=k;exact⟨_,_,_,ń X G a,⟨b,d,e,g⟩,⟨⟨i,j,k,l⟩,p.all,nd⟩,xy m n o⟩
end L2
end
section
set_option maxHeartbeats 400000
namespace Hc
open PySem L2
inductive vQ (K:Ê)(C:G)(m q:Str)(j:Nat):Prop
 |mk {f:G} {od an:Option G} {sl:Array (Option F)} {oc kV dc pm cd ct:F}:ğ K (.ref C) m=J (J (.ref f))->ϊ K (.ref f)=M->Ń K (.ref f)=M->
  K.lookup f=J ⟨oc,od,.func (Ĉ m q (di (kR j)) (aU (kR j)) (ag (kR j)) .none kV dc pm an cd ct),sl⟩->ż K cd q=M->vQ K C m q j
inductive OJ (K:Ê)(x:Str)(st:Ô):Prop
 |mk {f:G} {od an:Option G} {sl:Array (Option F)} {oc kV dc pm cd ct:F}:û K ç x=J (J (.ref f))->
  K.lookup f=J ⟨oc,od,.func (Ĉ x x (di st) (aU st) (ag st) .none kV dc pm an cd ct),sl⟩->ż K cd x=M->Ń K (.ref f)=M->OJ K x st
inductive SH (w:ß):List Ş->List (md×V)->Prop
 |nil:SH w [] []
 |cons {y:Str} {t t':Tok} {i:Int} {es:List Ş} {l:List (md×V)}:SH w es l->SH w (⟨PyData.keyHash w.params y,.str y t,.int i t'⟩::es) ((.inr y,.int i)::l)
inductive JL (w:ß)(K:Ê)(x:Str)(l:List (md×V)):Prop
 |mk {a:G} {es:List Ş} {ep:Nat}:û K ç x=J (J (.ref a))->K.lookup a=J ⟨.type "dict",Z,.dict es.toArray ep,#[]⟩->(a==sysModules)=Y->SH w es l->JL w K x l
section
variable {m q:Str}{l:List (md×V)}
theorem vQ.of (k:vQ K C m q j):Rm K C m q j:=by
 obtain⟨a,b,c,d,e⟩:=k;exact⟨_,_,⟨a,b,c⟩,xy d e c⟩
theorem OJ.of (k:OJ K x st)(X:K.In h)(G:h.Ns ç mg):Df K mg x st:=by
 obtain⟨a,b,c,d⟩:=k;exact⟨_,_,ń X G a,xy b c d⟩
theorem SH.of {es:List Ş}(E:SH w es l):KeysOf (iR P w) es.toArray/\∃vs,KV l vs/\Pairs (iR P w) es vs/\vs.map (·.1)=l.map (·.1):=by
 induction E with
 |nil=>exact⟨λe h=>by simp at h,[],.nil,.nil,rfl⟩
 | @cons y t t' i es l _ ih=>
  obtain⟨k,vs,a,b,c⟩:=ih;refine⟨λe h=>?_,(.inr y,.int i t')::vs,.cons ⟨rfl,⟨t',rfl⟩⟩ a,.cons (ky P w y t) rfl b,by simp[c]⟩;simp only[List.mem_toArray,à] at h;rcases h with rfl|h
  ·exact⟨.inr y,ky P w y t,rfl⟩
  ·exact k e (by simpa using h)
theorem JL.of (k:JL w K x l)(nd:(l.map (·.1)).Nodup)(X:K.In h)(G:h.Ns ç mg):vG P w K mg x l:=by
 obtain⟨a,b,c,d⟩:=k;obtain⟨e,vs,f,g,i⟩:=d.of (P:=P);exact⟨_,ń X G a,c,λh' Yq=>⟨vs,f,_,_,_,Yq _ _ b,⟨rfl,rfl,rfl⟩,rfl,e,g,by rw[i];exact nd⟩⟩
theorem Q5 (X:K.In h)(G:h.Ns ç mg)(a:û K ç "Reader"=J (J (.ref C)))(y:VH K "Reader" "Reader.__init__" (kR 0) ["words","at"])
  (m1:vQ K C "coming" "Reader.coming" 1) (m2:vQ K C "take" "Reader.take" 2) (m3:vQ K C "takes" "Reader.takes" 3) (m4:vQ K C "need" "Reader.need" 4) (m5:vQ K C "read_numbers" "Reader.read_numbers" 5) (m6:vQ K C "read_orders" "Reader.read_orders" 6)
  (m7:vQ K C "read_way" "Reader.read_way" 7) (m8:vQ K C "read_ways" "Reader.read_ways" 8) (m9:vQ K C "read_plan" "Reader.read_plan" 9) (d1:OJ K "is_number" FV) (d2:OJ K "number_of" AI) (t:JL w K "FIGURES" Cb):SG P w K mg C:=by
 obtain⟨C',f,fd,e,Mq,co,F⟩:=(Uv y X G).ex;have a:=ń X G a;rw[a] at e;cases e;exact⟨co,a,⟨f,fd,Mq,F⟩,m1.of,m2.of,m3.of,m4.of,m5.of,m6.of,m7.of,m8.of,m9.of,d1.of X G,d2.of X G,t.of (by decide+kernel) X G⟩
end
end Hc
end
namespace Hc
open L2
section
variable {base:Í}
structure Ds (R:Str->Ô->Prop):Prop where
 q0:R "is_whole" uS
 q1:R "is_card" yf
 q2:R "is_row" yg
 q3:R "is_order" oK
 q4:R "is_shuffle" jW
 q5:R "are_places" jX
 q6:R "is_way" yi
 q7:R "are_ways" kY
 q8:R "has_form" uT
 q9:R "plans_within" gL
 q10:R "is_plan" su
 q11:R "row_text" oM
 q12:R "way_text" kZ
 q13:R "plan_text" fQ
 q14:R "plan_read" gY
 q15:R "row_read" jx
 q16:R "_law_cell_at" nu
 q17:R "_law_state" pZ
 q18:R "_law_take" uU
 q19:R "_law_row" oN
 q20:R "_law_order" lX
 q21:R "_law_laid" oO
 q22:R "_law_shuffle" dY
 q23:R "_law_end" yj
 q24:R "_law_look" gb
 q25:R "_law_plan" iG
 q26:R "_law_size" jy
 q27:R "_law_drawn" p6
 q28:R "_law_numbers" iZ
 q29:R "_law_text" iH
 q30:R "_law_plain" gZ
 q31:R "law" yk
structure Al (P:ø)(w:ß)(K:Ê)(mg:Str->Option F)(cX:G):Prop extends Txt mg where
 D:Ds (Df K mg)
 XT:SG P w K mg cX
def k7 (T:Al P w K mg cX):Fn P w K mg base "is_whole" 1 ["thing"] (ji K 1 dQ .S):=(kj P w base 0 Cd .S nj T.D.q0 Ar As λhr hu=>(aq (aw (ic (ha:=(dF (T:="int") (by decide) (ak 0) T.zdq T.zoq xA)) (hb:=(i9 (Hn (dF (T:="bool") (by decide) (ak 0) T.zdq T.zkq CY))))))) :)
theorem uW (T:Al P w K mg cX):Fn P w K mg base "is_card" 2 ["thing"] (ji K 1 eU .S):=by
 obtain⟨jz,zaq⟩:=T.zaq;exact (kj P w base 1 FJ .S lW T.D.q1 Ck Cm λhr hu=>(aq (aw (ic (ha:=(av (k7 T) (rm hr) (aa (ak 0) ah))) (hb:=(i9 (zf sN mU sN mU aj (ak 0) (kD (i:=9) rfl zaq))))))) :)
theorem FX (T:Al P w K mg cX):Fn P w K mg base "is_row" 3 ["thing"] (ji K 1 f9 .S):=by
 obtain⟨mL,zfq⟩:=T.zfq;exact (kj P w base 2 JD .S uK T.D.q2 FQ FR λhr hu=>(ai (bB (DW.dt (j6 (eK (eA (dF (T:="tuple") (by decide) (ak 0) T.zdq T.ziq bN))) (g_ (eK (zg sN mU sN mU aj (aK bD bV (by rfl) T.zmq cy (aa (ak 0) ah)) (kD (i:=8) rfl zfq)))))) (aq (aw eR)) aJ)
 (aq (aw (aK (d0 rfl) gH (by rfl) T.zpq jE (aa (cz (ag yg) ["thing"] ["card"] [Z] rfl (bX (ak 0)) (λYq=>⟨(aQ (i:=0) (show (["card"]:List Str).Nodup by decide+kernel)),aX,(av (uW T) (rm hr) (aa (ak 0) ah))⟩)) ah))))) :)
def qV (T:Al P w K mg cX):Fn P w K mg base "is_order" 2 ["thing","many"] (ji K 2 dR .S):=(kj P w base 1 Ce .S jS T.D.q3 Au Av λhr hu=>(ai (bB (eK (eA (dF (T:="tuple") (by decide) (ak 0) T.zdq T.ziq bN))) (aq (aw eR)) aJ)
 (aq (aw (ic (ha:=(aK (d0 rfl) gH (by rfl) T.zpq jE (aa (cz (ag oK) ["thing","many"] ["place"] [Z] rfl (bX (ak 0)) (λYq=>⟨(aQ (i:=0) (show (["place"]:List Str).Nodup by decide+kernel)),aX,(av (k7 T) (rm hr) (aa (ak 0) ah))⟩)) ah))) (hb:=(i9 (g9 (dB hu) (cZ (f:=id)) (aK xC E9 (by rfl) T.zgq pF (aa (ak 0) ah)) (Dh rfl (aa (ak 1) ah) T.zjq T.zhq) (aD _)))))))) :)
theorem vR (T:Al P w K mg cX):Fn P w K mg base "is_shuffle" 3 ["thing","many"] (ji K 2 dj .S):=by
 obtain⟨lE,zcq⟩:=T.zcq;exact (kj P w base 2 yb .S fq T.D.q4 vJ vK λhr hu=>(ai (bB (DW.dt (j6 (eK (eA (dF (T:="tuple") (by decide) (ak 0) T.zdq T.ziq bN))) (g_ (eK (zg sN mU sN mU aj (aK bD bV (by rfl) T.zmq cy (aa (ak 0) ah)) (kD (i:=24) rfl zcq)))))) (aq (aw eR)) aJ)
 (aq (aw (aK (d0 rfl) gH (by rfl) T.zpq jE (aa (cz (ag jW) ["thing","many"] ["part","many"] [Z,J 1] rfl (bX (ak 0)) (λYq=>⟨(aQ (i:=0) (show (["part","many"]:List Str).Nodup by decide+kernel)),aX,(av (qV T) (rm hr) (aa (ak 0) (aa (ak 1) ah)))⟩)) ah))))) :)
def mH (T:Al P w K mg cX):Fn P w K mg base "are_places" 2 ["thing","many"] (ji K 2 cA .S):=(kj P w base 1 yc .S fu T.D.q5 vL vM λhr hu=>(ai (bB (DW.dt (j6 (eK (eA (dF (T:="tuple") (by decide) (ak 0) T.zdq T.ziq bN))) (g_ (aS (dB hu) (cZ (f:=id)) (aK bD bV (by rfl) T.zmq cy (aa (ak 0) ah)) aj (aD _))))) (aq (aw eR)) aJ)
 (ai (bB (eK (eA (aK (d0 rfl) gH (by rfl) T.zpq jE (aa (cz (ag jX) ["thing","many"] ["place","many"] [Z,J 1] rfl (bX (ak 0)) (λYq=>⟨(aQ (i:=0) (show (["place","many"]:List Str).Nodup by decide+kernel)),aX,(ic (ha:=(av (k7 T) (rm hr) (aa (ak 0) ah))) (hb:=(i9 (zf sN mU nG kL aj (ak 0) (ak 1)))))⟩)) ah)))) (aq (aw eR)) aJ)
 (aq (aw (g9 (dB hu) (cZ (f:=id)) (Fg rfl (aa (ak 0) ah) (by rfl) T.zmq (by rfl) T.zlq) (aK bD bV (by rfl) T.zmq cy (aa (ak 0) ah)) (aD _)))))) :)
def FY (T:Al P w K mg cX):Fn P w K mg base "is_way" 3 ["thing","size"] (ji K 2 iB .S):=(kj P w base 2 JE .S kW T.D.q6 xf FU λhr hu=>(ai (bB (DW.dt (j6 (eK (eA (dF (T:="tuple") (by decide) (ak 0) T.zdq T.ziq bN))) (g_ (aS yZ sf (aK bD bV (by rfl) T.zmq cy (aa (ak 0) ah)) aj (aD _))))) (aq (aw eR)) aJ)
 (ai (bo (i:=2) xf.nd (aZ aE aH (ak 0) aj (λ_ _=>rfl)))
 (aq (aw (ic (ha:=(dF (T:="tuple") (by decide) (ak 2) T.zdq T.ziq bN)) (hb:=(ic (ha:=(g9 (dB hu) (cZ (f:=id)) (aK bD bV (by rfl) T.zmq cy (aa (ak 2) ah)) (ak 1) (aD _))) (hb:=(i9 (aK (d0 rfl) gH (by rfl) T.zpq jE (aa (cz (ag yi) ["thing","size","seen"] ["card"] [Z] rfl (bX (ak 2)) (λYq=>⟨(aQ (i:=0) (show (["card"]:List Str).Nodup by decide+kernel)),aX,(av (uW T) (rm hr) (aa (ak 0) ah))⟩)) ah))))))))))) :)
def AN (T:Al P w K mg cX):Fn P w K mg base "are_ways" 4 ["thing","size"] (ji K 2 eM .S):=(kj P w base 3 Cf .S iC T.D.q7 Aw Ax λhr hu=>(ai (bB (DW.dt (j6 (eK (eA (dF (T:="tuple") (by decide) (ak 0) T.zdq T.ziq bN))) (g_ (aS (dB hu) (cZ (f:=id)) (aK bD bV (by rfl) T.zmq cy (aa (ak 0) ah)) aj (aD _))))) (aq (aw eR)) aJ)
 (ai (bB (eK (eA (aK (d0 rfl) gH (by rfl) T.zpq jE (aa (cz (ag kY) ["thing","size"] ["way","size"] [Z,J 1] rfl (bX (ak 0)) (λYq=>⟨(aQ (i:=0) (show (["way","size"]:List Str).Nodup by decide+kernel)),aX,(av (FY T) (rm hr) (aa (ak 0) (aa (ak 1) ah)))⟩)) ah)))) (aq (aw eR)) aJ)
 (aq (aw (aK (d0 rfl) gH (by rfl) T.zpq jE (aa (cz (ag kY) ["thing","size"] ["one","other"] [Z,Z] rfl (Qg (aa (ak 0) (aa (dN dO ik (ak 0) (eJ aj) fS) ah)) T.ztq) (λYq=>⟨(Hu rfl (nR (aQ (i:=0) (show (["one","other"]:List Str).Nodup by decide+kernel)) (nR (aQ (i:=1) (show (["one","other"]:List Str).Nodup by decide+kernel)) CZ))),aX,(g9 (QM hu) Mh (aZ aE aH (ak 0) aj (λ_ _=>rfl)) (aZ aE aH (ak 1) aj (λ_ _=>rfl)) (aD _))⟩)) ah)))))) :)
def AO (T:Al P w K mg cX):Fn P w K mg base "has_form" 5 ["thing","many"] (ji K 2 bG .S):=(kj P w base 4 Cg .S nk T.D.q8 Ay Az λhr hu=>(ai (bB (DW.dt (j6 (eK (eA (dF (T:="tuple") (by decide) (ak 0) T.zdq T.ziq bN))) (g_ (aS (dB hu) (cZ (f:=id)) (aK bD bV (by rfl) T.zmq cy (aa (ak 0) ah)) aj (aD _))))) (aq (aw eR)) aJ)
 (ai (bB (aS (dB hu) (cZ (f:=id)) (aZ aE aH (ak 0) aj (λ_ _=>rfl)) bA (aD _)) (aq (aw (g9 (dB hu) (cZ (f:=id)) (aK bD bV (by rfl) T.zmq cy (aa (ak 0) ah)) aj (aD _)))) aJ)
 (ai (bB (aS (dB hu) (cZ (f:=id)) (aZ aE aH (ak 0) aj (λ_ _=>rfl)) bA (aD _)) (aq (aw (ic (ha:=(g9 (dB hu) (cZ (f:=id)) (aK bD bV (by rfl) T.zmq cy (aa (ak 0) ah)) aj (aD _))) (hb:=(i9 (av (mH T) (rm hr) (aa (aZ aE aH (ak 0) aj (λ_ _=>rfl)) (aa (ak 1) ah)))))))) aJ)
 (ai (bB (aS yZ sf (aK bD bV (by rfl) T.zmq cy (aa (ak 0) ah)) aj (aD _)) (aq (aw eR)) aJ)
 (ai (bB (aS (dB hu) (cZ (f:=id)) (aZ aE aH (ak 0) aj (λ_ _=>rfl)) bA (aD _)) (aq (aw (av (qV T) (rm hr) (aa (aZ aE aH (ak 0) aj (λ_ _=>rfl)) (aa (ak 1) ah))))) aJ)
 (ai (bB (aS (dB hu) (cZ (f:=id)) (aZ aE aH (ak 0) aj (λ_ _=>rfl)) bA (aD _)) (aq (aw (av (vR T) (rm hr) (aa (aZ aE aH (ak 0) aj (λ_ _=>rfl)) (aa (ak 1) ah))))) aJ)
 (aq (aw (ic (ha:=(g9 (dB hu) (cZ (f:=id)) (aZ aE aH (ak 0) aj (λ_ _=>rfl)) bA (aD _))) (hb:=(ic (ha:=(av (mH T) (rm hr) (aa (aZ aE aH (ak 0) aj (λ_ _=>rfl)) (aa (ak 1) ah)))) (hb:=(i9 (av (AN T) (rm hr) (aa (aZ aE aH (ak 0) aj (λ_ _=>rfl)) (aa (aK bD bV (by rfl) T.zmq cy (aa (aZ aE aH (ak 0) aj (λ_ _=>rfl)) ah)) ah)))))))))))))))) :)
def rJ (T:Al P w K mg cX):Fn P w K mg base "plans_within" 1 ["plans"] (ji K 1 dU .O):=(kj P w base 0 uL .O iD T.D.q9 gz rC λhr hu=>(ai (jH (i:=1) gz.nd (gp ah))
 (ai (mS ŀ rfl (bX (ak 0)) (aQ (i:=2) gz.nd)
 (aq (bB (DW.dt (j6 (aS (dB hu) (cZ (f:=id)) (aZ aE aH (ak 2) aj (λ_ _=>rfl)) bA (aD _)) (g_ (aS (dB hu) (cZ (f:=id)) (aZ aE aH (ak 2) aj (λ_ _=>rfl)) bA (aD _))))) (aq (nU (pJ (i:=1) Ε ad6 ad7 pA tQ (aa (aZ aE aH (ak 2) aj (λ_ _=>rfl)) ah)))) (aq (bB (aS (dB hu) (cZ (f:=id)) (aZ aE aH (ak 2) aj (λ_ _=>rfl)) bA (aD _)) (aq (nU (pJ (i:=1) Ε ad8 ad9 xI mT (aa (cz (ag gL) ["plans","inner","plan"] ["way"] [Z] rfl (bX (aZ aE aH (ak 2) aj (λ_ _=>rfl))) (λYq=>⟨(aQ (i:=0) (show (["way"]:List Str).Nodup by decide+kernel)),aX,(aZ aE aH (ak 0) aj (λ_ _=>rfl))⟩)) ah)))) aJ)))))
 (aq (LJ (i:=1) (hi:=by decide))))) :)
theorem Cp (T:Al P w K mg cX):Fn P w K mg base "is_plan" 6 ["thing","many"] (ji K 2 dA .S):=by
 obtain⟨mM,zeq⟩:=T.zeq;obtain⟨lF,zbq⟩:=T.zbq;exact (kj P w base 5 FK .S pY T.D.q10 eN Co λhr hu=>(ai (bo (i:=2) eN.nd (gp (aa (ak 0) ah)))
 (ai (bo (i:=3) eN.nd aj)
 (ai (bo (i:=4) eN.nd aj)
 (ai (Hv ŀ (aS qg mV (aK bD bV (by rfl) T.zmq cy (aa (ak 2) ah)) aj (aD _))
 (ai (Hx (i:=3) Gz eN.nd (aK bD bV (by rfl) T.zmq cy (aa (ak 2) ah)))
 (ai (Hx (i:=4) Gz eN.nd aj)
 (ai (bB (DW.dt (j6 (aS qg mV (ak 3) (kD (i:=60) rfl zeq) (aD _)) (g_ (aS qg mV (ak 4) (kD (i:=12) rfl zbq) (aD _))))) (aq (aw eR)) aJ)
 (ai (bB (eK (eA (aK (d0 rfl) gH (by rfl) T.zpq jE (aa (cz (ag su) ["thing","many","level","met","depth"] ["part","many"] [Z,J 1] rfl (bX (ak 2)) (λYq=>⟨(aQ (i:=0) (show (["part","many"]:List Str).Nodup by decide+kernel)),aX,(av (AO T) (rm hr) (aa (ak 0) (aa (ak 1) ah)))⟩)) ah)))) (aq (aw eR)) aJ)
 (aq (bo (i:=2) eN.nd (av (rJ T) (rm hr) (aa (ak 2) ah)))))))))
 (aq (aw eR)))))) :)
def gc (T:Al P w K mg cX):Fn P w K mg base "row_text" 1 ["row"] (ji K 1 cv .S):=(kj P w base 0 Ci .S uM T.D.q11 AB AD λhr hu=>(aq (aw (lV (aa (cz (ag oM) ["row"] ["number"] [Z] rfl (bX (ak 0)) (λYq=>⟨(aQ (i:=0) (show (["number"]:List Str).Nodup by decide+kernel)),aX,(cD Ak D_ (by rfl) T.zsq xB (aa (ak 0) ah))⟩)) ah)))) :)
theorem qW (T:Al P w K mg cX):∀n,(Fn P w K mg base "way_text" (n+2) ["way"] (ji K 1 (fL n) .S))/\(Fn P w K mg base "plan_text" (n+2) ["plan"] (ji K 1 (aR n) .S)):=by
 intro n
 induction n with
 |zero=>
  refine⟨?_,?_⟩
  ·
   refine Df.fnD (N:=["way","seen","inner"]) (ps:=["way"]) (st:=kZ) (k:=1) uN .S (fK 0) T.D.q12 i0 qR rfl (by decide) ?_;intro f bT A outer s0 H E hr;have hu:=hr.units;have yR:=g8 hr;exact jK
  ·
   refine Df.fnD (N:=["plan","form","numbers","ways","inner"]) (ps:=["plan"]) (st:=fQ) (k:=1) qN .S (cC 0) T.D.q13 dk oP rfl (by decide) ?_;intro f bT A outer s0 H E hr;have hu:=hr.units;have yR:=g8 hr;exact jK
 |succ n ih=>
  obtain⟨F_way_text,F_plan_text⟩:=ih;refine⟨?_,?_⟩
  ·
   refine Df.fnD (N:=["way","seen","inner"]) (ps:=["way"]) (st:=kZ) (k:=n+2) uN .S (fK (n+1)) T.D.q12 i0 qR rfl (by decide) ?_;intro f bT A outer s0 H E hr;have hu:=hr.units;have yR:=g8 hr;exact (ai (bo (i:=1) i0.nd (av (gc T) (rm hr) (aa (aZ aE aH (ak 0) aj (λ_ _=>rfl)) ah)))
 (ai (bo (i:=2) i0.nd (av F_plan_text (rm hr) (aa (aZ aE aH (ak 0) aj (λ_ _=>rfl)) ah)))
 (aq (aw (sh (DF.v 1 (DF.c (DF.v 2 DF.nil))))))))
  ·
   refine Df.fnD (N:=["plan","form","numbers","ways","inner"]) (ps:=["plan"]) (st:=fQ) (k:=n+2) qN .S (cC (n+1)) T.D.q13 dk oP rfl (by decide) ?_;intro f bT A outer s0 H E hr;have hu:=hr.units;have yR:=g8 hr;exact (ai (bo (i:=1) dk.nd (aZ aE aH (ak 0) aj (λ_ _=>rfl)))
 (ai (bB (aS fX cW (ak 1) bA (aD _)) (aq (aw bA)) aJ)
 (ai (bB (aS fX cW (ak 1) bA (aD _)) (aq (bo (i:=2) dk.nd (lV (aa (cz (ag fQ) ["plan","form","numbers","ways","inner"] ["order"] [Z] rfl (bX (aZ aE aH (ak 0) aj (λ_ _=>rfl))) (λYq=>⟨(aQ (i:=0) (show (["order"]:List Str).Nodup by decide+kernel)),aX,(av (gc T) (rm hr) (aa (ak 0) ah))⟩)) ah)))) (aq (bo (i:=2) dk.nd (av (gc T) (rm hr) (aa (aZ aE aH (ak 0) aj (λ_ _=>rfl)) ah)))))
 (ai (bB (aS fX cW (ak 1) bA (aD _)) (aq (aw (sh (DF.c (DF.v 2 DF.nil))))) aJ)
 (ai (bB (aS fX cW (ak 1) bA (aD _)) (ai (bo (i:=3) dk.nd (lV (aa (cz (ag fQ) ["plan","form","numbers","ways","inner"] ["way"] [Z] rfl (bX (aZ aE aH (ak 0) aj (λ_ _=>rfl))) (λYq=>⟨(aQ (i:=0) (show (["way"]:List Str).Nodup by decide+kernel)),aX,(av F_way_text (rm hr) (aa (ak 0) ah))⟩)) ah)))
 (aq (aw (sh (DF.c (DF.v 2 (DF.c (DF.v 3 (DF.c DF.nil))))))))) aJ)
 (ai (bo (i:=4) dk.nd (av F_plan_text (rm hr) (aa (aZ aE aH (ak 0) aj (λ_ _=>rfl)) ah)))
 (aq (aw (sh (DF.v 1 (DF.c (DF.v 2 (DF.c (DF.v 4 DF.nil))))))))))))))
def rK (T:Al P w K mg cX):Fn P w K mg base "_law_cell_at" 1 ["script","k"] (ji K 2 dX .S):=(kj P w base 0 uP .S fv T.D.q16 rD rE λhr hu=>(ai (bB (aS nG kL (ak 1) (aK bD bV (by rfl) T.zmq cy (aa (ak 0) ah)) (aD _)) (aq (aw (aZ aE aH (ak 0) (ak 1) (λ_ _=>rfl)))) aJ)
 (aq (aw aj))) :)
def vS (T:Al P w K mg cX):Fn P w K mg base "_law_state" 2 ["script","k"] (ji K 2 fw .O):=(kj P w base 1 yd .O gJ T.D.q17 mC vN λhr hu=>(ai (bo (i:=2) mC.nd (av (rK T) (rm hr) (aa (ak 0) (aa (ak 1) ah))))
 (ai (bB (aS S6 Qb (ak 2) (a_ GD C7 aj aj) (aD _)) (aq (C0 (gp (aa (a_ ph lK (ak 2) (a_ GD C7 aj aj)) (aa eR ah))))) aJ)
 (aq (C0 (gp (aa (a_ pj lL (ak 2) aj) (aa eR ah))))))) :)
def br (T:Al P w K mg cX):Fn P w K mg base "_law_take" 1 ["state","many"] (Hq K 2 aB):=(Fv P w base 0 Ao iW T.D.q18 gN yn λhr hu=>(ai (bB (eA (aZ aE aH (i8 0) aj (λ_ _=>rfl))) (ai (bo (i:=2) gN.nd (a_ pj lL (aZ aE aH (i8 0) aj (λ_ _=>rfl)) (ak 1)))
 (ai (C5 (i:=0) (a_ pE tL (aZ aE aH (i8 0) aj (λ_ _=>rfl)) (ak 1)) aj)
 (aq (aw (ak 2))))) aJ)
 (ai (C5 (i:=0) (a_ pj lL (a_ bZ b_ (a_ jC gG (aZ aE aH (i8 0) aj (λ_ _=>rfl)) aj) aj) aj) aj)
 (ai (bo (i:=3) gN.nd (a_ pj lL (a_ bZ b_ (a_ bZ b_ (a_ jC gG (aZ aE aH (i8 0) aj (λ_ _=>rfl)) (aZ aE aH (i8 0) aj (λ_ _=>rfl))) (a_ jC gG aj (aZ aE aH (i8 0) aj (λ_ _=>rfl)))) aj) aj))
 (ai (bo (i:=3) gN.nd (a_ pj lL (a_ bZ b_ (a_ jC gG (ak 3) (ak 3)) (a_ jC gG aj (ak 3))) aj))
 (aq (aw (a_ pj lL (a_ pE tL (ak 3) aj) (ak 1)))))))) :)
def AQ (T:Al P w K mg cX):Fn P w K mg base "_law_row" 2 ["state","many"] (Hq K 2 fO):=(Fv P w base 1 fN jT T.D.q19 qT AF λhr hu=>(ai (bo (i:=2) qT.nd (aT (i:=0) (br T) (rm hr) (aa aj ah)))
 (ai (bB (aS nG kL (ak 2) aj (aD _)) (aq (aw (cD bS d8 (by rfl) T.ziq bN (aa (tH (ag oN) ["state","many","way"] ["k","state"] [Z,J 0] rfl (d7 (aa (ak 1) ah) T.zhq) (λYq=>⟨(aQ (i:=0) (show (["k","state"]:List Str).Nodup by decide+kernel)),aX,(aT (i:=1) (br T) (rm hr) (aa aj ah))⟩)) ah)))) aJ)
 (aq (aw (cD bS d8 (by rfl) T.ziq bN (aa (tH (ag oN) ["state","many","way"] ["k","state","way"] [Z,J 0,J 2] rfl (d7 (aa (ak 1) ah) T.zhq) (λYq=>⟨(aQ (i:=0) (show (["k","state","way"]:List Str).Nodup by decide+kernel)),aX,(aT (i:=1) (br T) (rm hr) (aa (aZ aE aH (gp (aa aj (aa aj ah))) (a_ ph lK (ak 2) aj) (λ_ _=>rfl)) ah))⟩)) ah)))))) :)
theorem eG (T:Al P w K mg cX):Fn P w K mg base "_law_order" 2 ["state","many"] (Hq K 2 cB):=(Fv P w base 1 jU jV T.D.q20 mD vO λhr hu=>(ai (jH (i:=2) mD.nd (Dh rfl (aa (ak 1) ah) T.zjq T.zhq))
 (aq (aw (cD bS d8 (by rfl) T.ziq bN (aa (tH (ag lX) ["state","many","left"] ["k","left","state"] [Z,J 2,J 0] rfl (d7 (aa (ak 1) ah) T.zhq) (λYq=>⟨(aQ (i:=0) (show (["k","left","state"]:List Str).Nodup by decide+kernel)),aX,(pJ (i:=1) Ε PySem.F.slot_list_pop PySem.F.type_list_pop G0 E_ (aa (aT (i:=2) (br T) (rm hr) (aa (aK bD bV (by rfl) T.zmq cy (aa (i8 1) ah)) ah)) ah))⟩)) ah))))) :)
def gP (T:Al P w K mg cX):Fn P w K mg base "_law_laid" 1 ["row","order"] (ji K 2 cg .S):=(kj P w base 0 Ap .S kX T.D.q21 yo yp λhr hu=>(aq (aw (cD bS d8 (by rfl) T.ziq bN (aa (cz (ag oO) ["row","order"] ["place","row"] [Z,J 0] rfl (bX (ak 1)) (λYq=>⟨(aQ (i:=0) (show (["place","row"]:List Str).Nodup by decide+kernel)),aX,(aZ aE aH (ak 1) (ak 0) (λ_ _=>rfl))⟩)) ah)))) :)
def rL (T:Al P w K mg cX):Fn P w K mg base "_law_shuffle" 3 ["state","many"] (Hq K 2 bp):=(Fv P w base 2 iE cF T.D.q22 bw rF λhr hu=>(ai (bo (i:=2) bw.nd (LU rfl (aa (ak 1) ah) T.ziq T.zhq))
 (ai (bo (i:=3) bw.nd (aT (i:=0) (br T) (rm hr) (aa aj ah)))
 (ai (bB (aS fX cW (ak 3) aj (aD _)) (aq (aw (cD bS d8 (by rfl) T.ziq bN (aa (cz (ag dY) ["state","many","stays","way","order","half","some","size","k","longer"] ["k","stays"] [Z,J 2] rfl (d7 (aa (ak 1) ah) T.zhq) (λYq=>⟨(aQ (i:=0) (show (["k","stays"]:List Str).Nodup by decide+kernel)),aX,(a_ bZ b_ (dN dO ik (ak 1) (eJ (ak 0)) fS) (dN dO ik (ak 1) fS (eJ (ak 0))))⟩)) ah)))) aJ)
 (ai (bB (aS fX cW (ak 3) aj (aD _)) (ai (bo (i:=4) bw.nd (aT (i:=0) (eG T) (rm hr) (aa (ak 1) ah)))
 (aq (aw (fh (aa (ak 2) (aa (ak 4) ah)))))) aJ)
 (ai (bB (aS fX cW (ak 3) aj (aD _)) (ai (bo (i:=5) bw.nd (a_ pE tL (ak 1) aj))
 (aq (aw (fh (aa (ak 2) (aa (a_ bZ b_ (a_ bZ b_ (dN dO ik (ak 2) (eJ (ak 5)) (eJ (a_ jC gG aj (ak 5)))) (dN dO ik (ak 2) fS (eJ (ak 5)))) (dN dO ik (ak 2) (eJ (a_ jC gG aj (ak 5))) fS)) ah)))))) aJ)
 (ai (bB (aS fX cW (ak 3) aj (aD _)) (ai (bo (i:=6) bw.nd (gp (aa (fh ah) ah)))
 (ai (bo (i:=7) bw.nd (aK (v_ rfl) zx (by rfl) T.zrq He (aa (ak 1) (aa (a_ bZ b_ aj (aT (i:=0) (br T) (rm hr) (aa aj ah))) ah))))
 (ai (mS ŀ rfl (d7 (aa (ak 7) ah) T.zhq) (aQ (i:=8) bw.nd)
 (ai (jH (i:=9) bw.nd (gp ah))
 (ai (mS ŀ rfl (bX (ak 6)) (aQ (i:=4) bw.nd)
 (aq (nU (pJ (i:=9) Ε ad8 ad9 xI mT (aa (cz (ag dY) ["state","many","stays","way","order","half","some","size","k","longer"] ["j","order","k"] [Z,J 4,J 8] rfl (d7 (aa (a_ bZ b_ (ak 8) aj) ah) T.zhq) (λYq=>⟨(aQ (i:=0) (show (["j","order","k"]:List Str).Nodup by decide+kernel)),aX,(a_ bZ b_ (a_ bZ b_ (dN dO ik (ak 1) fS (eJ (ak 0))) (fh (aa (ak 2) ah))) (dN dO ik (ak 1) (eJ (ak 0)) fS))⟩)) ah)))))
 (aq (LK (i:=6) (j:=9) bw.nd)))))
 (aq (aw (cD bS d8 (by rfl) T.ziq bN (aa (cz (ag dY) ["state","many","stays","way","order","half","some","size","k","longer"] ["order","stays","size"] [Z,J 2,J 7] rfl (bX (ak 6)) (λYq=>⟨(aQ (i:=0) (show (["order","stays","size"]:List Str).Nodup by decide+kernel)),aX,(a_ bZ b_ (ak 0) (dN dO ik (ak 1) (eJ (ak 2)) fS))⟩)) ah))))))) aJ)
 (aq (aw (cD bS d8 (by rfl) T.ziq bN (aa (tH (ag dY) ["state","many","stays","way","order","half","some","size","k","longer"] ["k","state","many"] [Z,J 0,J 1] rfl (d7 (aa (a_ bZ b_ aj (aT (i:=0) (br T) (rm hr) (aa aj ah))) ah) T.zhq) (λYq=>⟨(aQ (i:=0) (show (["k","state","many"]:List Str).Nodup by decide+kernel)),aX,(aT (i:=1) (eG T) (rm hr) (aa (ak 2) ah))⟩)) ah)))))))))) :)
def k8 (T:Al P w K mg cX):Fn P w K mg base "_law_end" 3 ["state","many"] (Hq K 2 fP):=(Fv P w base 2 Cj nq T.D.q23 qU AG λhr hu=>(ai (bo (i:=2) qU.nd (aT (i:=0) (eG T) (rm hr) (aa (ak 1) ah)))
 (aq (aw (fh (aa bA (aa (dN dO ik (ak 2) fS (eJ (a_ bZ b_ aj (aT (i:=0) (br T) (rm hr) (aa (aZ aE aH (gp (aa aj (aa (ak 1) ah))) (aT (i:=0) (br T) (rm hr) (aa aj ah)) (λ_ _=>rfl)) ah))))) ah)))))) :)
theorem yu (T:Al P w K mg cX):∀n,(Fn P w K mg base "_law_look" (n+4) ["state","rows","deep","again"] (Hq K 4 (iY n)))/\(Fn P w K mg base "_law_plan" (n+4) ["state","rows","deep","again"] (Hq K 4 (bO n))):=by
 intro n
 induction n with
 |zero=>
  refine⟨?_,?_⟩
  ·
   refine Df.fnI (N:=["state","rows","deep","again","many","places","seen","ways","some","left","more"]) (ps:=["state","rows","deep","again"]) (st:=gb) (k:=3) iX (eV 0) T.D.q24 cf oR rfl rfl (by decide) ?_;intro f bT A outer s0 H E hr;have hu:=hr.units;have yR:=g8 hr;exact jK
  ·
   refine Df.fnI (N:=["state","rows","deep","again","many","way","order","shuffle","fresh"]) (ps:=["state","rows","deep","again"]) (st:=iG) (k:=3) qO (bU 0) T.D.q25 cN oT rfl rfl (by decide) ?_;intro f bT A outer s0 H E hr;have hu:=hr.units;have yR:=g8 hr;exact jK
 |succ n ih=>
  obtain⟨F__law_look,F__law_plan⟩:=ih;refine⟨?_,?_⟩
  ·
   refine Df.fnI (N:=["state","rows","deep","again","many","places","seen","ways","some","left","more"]) (ps:=["state","rows","deep","again"]) (st:=gb) (k:=n+4) iX (eV (n+1)) T.D.q24 cf oR rfl rfl (by decide) ?_;intro f bT A outer s0 H E hr;have hu:=hr.units;have yR:=g8 hr;exact (ai (bo (i:=4) cf.nd (aK bD bV (by rfl) T.zmq cy (aa (aZ aE aH (ak 1) aj (λ_ _=>rfl)) ah)))
 (ai (bo (i:=5) cf.nd (dN dO ik (aT (i:=0) (eG T) (rm hr) (aa (ak 4) ah)) fS (eJ (a_ bZ b_ aj (a_ jC gG (aT (i:=0) (br T) (rm hr) (aa aj ah)) (cD wa Dd (by rfl) T.zoq xA (aa (g9 qg mV (ak 4) aj (aD _)) ah)))))))
 (ai (bo (i:=6) cf.nd (jP rfl hu (aa (cz (ag gb) ["state","rows","deep","again","many","places","seen","ways","some","left","more"] ["row","places"] [Z,J 5] rfl (bX (ak 1)) (λYq=>⟨(aQ (i:=0) (show (["row","places"]:List Str).Nodup by decide+kernel)),aX,(av (gP T) (rm hr) (aa (ak 0) (aa (ak 1) ah)))⟩)) ah) T.zgq T.zlq))
 (ai (bB (aS qg mV (aK bD bV (by rfl) T.zmq cy (aa (ak 6) ah)) aj (aD _)) (aq (aw (aT (i:=0) (k8 T) (rm hr) (aa (ak 4) ah)))) aJ)
 (ai (jH (i:=7) cf.nd (gp ah))
 (ai (mS ŀ rfl (bX (ak 6)) (aQ (i:=8) cf.nd)
 (ai (wy (i:=9) (ag gb) ["state","rows","deep","again","many","places","seen","ways","some","left","more"] ["row","some","places"] [Z,J 8,J 5] cf.nd rfl (bX (ak 1)) (λYq=>⟨(aQ (i:=0) (show (["row","some","places"]:List Str).Nodup by decide+kernel)),(zm (aS (dB hu) (cZ (f:=id)) (av (gP T) (rm hr) (aa (ak 0) (aa (ak 2) ah))) (ak 1) (aD _))),(ak 0)⟩))
 (aq (nU (pJ (i:=7) Ε ad6 ad7 pA tQ (aa (fh (aa (ak 8) (aa (aT (i:=0) F__law_plan (rm hr) (aa (ak 9) (aa (a_ ph lK (ak 2) aj) (aa (ak 3) ah)))) ah))) ah))))))
 (ai (bB (aS fX cW (aT (i:=0) (br T) (rm hr) (aa aj ah)) aj (aD _)) (ai (bo (i:=10) cf.nd (cD bS d8 (by rfl) T.ziq bN (aa (tH (ag gb) ["state","rows","deep","again","many","places","seen","ways","some","left","more"] ["place","state"] [Z,J 0] rfl (bX (ak 5)) (λYq=>⟨(aQ (i:=0) (show (["place","state"]:List Str).Nodup by decide+kernel)),aX,(aT (i:=1) (br T) (rm hr) (aa aj ah))⟩)) ah)))
 (aq (bB (aS (FH hu) Jq (ak 10) (ak 6) (by rfl)) (aq (jH (i:=7) cf.nd (aK (B8 rfl hu) FG (by rfl) T.zgq pF (aa (QK (j:=7) bZ b_ (gp (aa (fh (aa (ak 10) (aa (aT (i:=0) (k8 T) (rm hr) (aa (ak 4) ah)) ah))) ah))) ah)))) aJ))) aJ)
 (aq (aw (fh (aa bA (aa (ak 5) (aa (cD bS d8 (by rfl) T.ziq bN (aa (i8 7) ah)) ah)))))))))))))
  ·
   refine Df.fnI (N:=["state","rows","deep","again","many","way","order","shuffle","fresh"]) (ps:=["state","rows","deep","again"]) (st:=iG) (k:=n+4) qO (bU (n+1)) T.D.q25 cN oT rfl rfl (by decide) ?_;intro f bT A outer s0 H E hr;have hu:=hr.units;have yR:=g8 hr;exact (ai (bo (i:=4) cN.nd (aK bD bV (by rfl) T.zmq cy (aa (aZ aE aH (ak 1) aj (λ_ _=>rfl)) ah)))
 (ai (bo (i:=5) cN.nd (aT (i:=0) (br T) (rm hr) (aa aj ah)))
 (ai (bB (DW.dt (j6 (aS nG kL (ak 2) aj (aD _)) (g_ (aS fX cW (ak 5) aj (aD _))))) (aq (aw (aT (i:=0) (k8 T) (rm hr) (aa (ak 4) ah)))) aJ)
 (ai (bB (DW.dt (P0 (aS fX cW (ak 5) aj (aD _)) (LG (eA (ak 3))))) (aq (aw (fh (aa bA ah)))) aJ)
 (ai (bB (aS nG kL (ak 5) aj (aD _)) (ai (bo (i:=6) cN.nd (aT (i:=0) (eG T) (rm hr) (aa (ak 4) ah)))
 (aq (aw (fh (aa bA (aa (ak 6) (aa (aT (i:=0) F__law_plan (rm hr) (aa (jP rfl hu (aa (cz (ag iG) ["state","rows","deep","again","many","way","order","shuffle","fresh"] ["row","order"] [Z,J 6] rfl (bX (ak 1)) (λYq=>⟨(aQ (i:=0) (show (["row","order"]:List Str).Nodup by decide+kernel)),aX,(av (gP T) (rm hr) (aa (ak 0) (aa (ak 1) ah)))⟩)) ah) T.zgq T.zlq) (aa (a_ ph lK (ak 2) aj) (aa (ak 3) ah)))) ah))))))) aJ)
 (ai (bB (aS nG kL (ak 5) aj (aD _)) (ai (bo (i:=7) cN.nd (aT (i:=0) (rL T) (rm hr) (aa (ak 4) ah)))
 (ai (jH (i:=8) cN.nd (gp ah))
 (ai (mS ŀ rfl (bX (ak 7)) (aQ (i:=6) cN.nd)
 (aq (nU (pJ (i:=8) Ε ad8 ad9 xI mT (aa (cz (ag iG) ["state","rows","deep","again","many","way","order","shuffle","fresh"] ["row","order"] [Z,J 6] rfl (bX (ak 1)) (λYq=>⟨(aQ (i:=0) (show (["row","order"]:List Str).Nodup by decide+kernel)),aX,(av (gP T) (rm hr) (aa (ak 0) (aa (ak 1) ah)))⟩)) ah)))))
 (aq (aw (fh (aa bA (aa (ak 7) (aa (aT (i:=0) F__law_plan (rm hr) (aa (jP rfl hu (aa (i8 8) ah) T.zgq T.zlq) (aa (a_ ph lK (ak 2) aj) (aa (ak 3) ah)))) ah))))))))) aJ)
 (aq (aw (aT (i:=0) F__law_look (rm hr) (aa (ak 1) (aa (ak 2) (aa (ak 3) ah))))))))))))
theorem yv (T:Al P w K mg cX):∀n,Fn P w K mg base "_law_size" (n+1) ["plan"] (ji K 1 (eX n) .S):=by
 intro n
 induction n with
 |zero=>
  refine Df.fnD (N:=["plan"]) (ps:=["plan"]) (st:=jy) (k:=0) qP .S (eW 0) T.D.q26 oU oV rfl (by decide) ?_;intro f bT A outer s0 H E hr;have hu:=hr.units;have yR:=g8 hr;exact jK
 |succ n F__law_size=>
  refine Df.fnD (N:=["plan"]) (ps:=["plan"]) (st:=jy) (k:=n+1) qP .S (eW (n+1)) T.D.q26 oU oV rfl (by decide) ?_;intro f bT A outer s0 H E hr;have hu:=hr.units;have yR:=g8 hr;exact (ai (bB (aS (QJ hu) Jq (aZ aE aH (ak 0) aj (λ_ _=>rfl)) (fh (aa bA (aa bA ah))) (by rfl)) (aq (aw (a_ bZ b_ aj (av F__law_size (rm hr) (aa (aZ aE aH (ak 0) aj (λ_ _=>rfl)) ah))))) aJ)
 (ai (bB (aS fX cW (aZ aE aH (ak 0) aj (λ_ _=>rfl)) bA (aD _)) (aq (aw (a_ bZ b_ aj (aK (FE rfl) Jm (by rfl) T.znq PX (aa (cz (ag jy) ["plan"] ["way"] [Z] rfl (bX (aZ aE aH (ak 0) aj (λ_ _=>rfl))) (λYq=>⟨(aQ (i:=0) (show (["way"]:List Str).Nodup by decide+kernel)),aX,(av F__law_size (rm hr) (aa (aZ aE aH (ak 0) aj (λ_ _=>rfl)) ah))⟩)) ah))))) aJ)
 (aq (aw aj))))
def vT (T:Al P w K mg cX):Fn P w K mg base "_law_drawn" 22 ["state","rows","deep","again"] (Hq K 4 fx):=(Fv P w base 21 ye gK T.D.q27 mE vP λhr hu=>(ai (bo (i:=4) mE.nd (aT (i:=0) (yu T 8).2 (rm hr) (aa (jP rfl hu (aa (ak 1) ah) T.zgq T.zlq) (aa (ak 2) (aa (ak 3) ah)))))
 (aq (aw (Ho (hc:=(aS nG kL (av ((yv T) 20) (rm hr) (aa (ak 4) ah)) aj (aD _))) (ha:=(ak 4)) (hb:=(fh (aa bA (aa (fh (aa aj ah)) ah)))))))) :)
def cw (T:Al P w K mg cX):Fn P w K mg base "_law_numbers" 1 ["some"] (ji K 1 bq .S):=(kj P w base 0 uQ .S iF T.D.q28 rG rH λhr hu=>(aq (aw (lV (aa (cz (ag iZ) ["some"] ["one"] [Z] rfl (bX (ak 0)) (λYq=>⟨(aQ (i:=0) (show (["one"]:List Str).Nodup by decide+kernel)),aX,(cD Ak D_ (by rfl) T.zsq xB (aa (ak 0) ah))⟩)) ah)))) :)
theorem yw (T:Al P w K mg cX):∀n,Fn P w K mg base "_law_text" (n+2) ["plan"] (ji K 1 (bh n) .S):=by
 intro n
 induction n with
 |zero=>
  refine Df.fnD (N:=["plan","orders","ways"]) (ps:=["plan"]) (st:=iH) (k:=1) qQ .S (cM 0) T.D.q29 gO oW rfl (by decide) ?_;intro f bT A outer s0 H E hr;have hu:=hr.units;have yR:=g8 hr;exact jK
 |succ n F__law_text=>
  refine Df.fnD (N:=["plan","orders","ways"]) (ps:=["plan"]) (st:=iH) (k:=n+2) qQ .S (cM (n+1)) T.D.q29 gO oW rfl (by decide) ?_;intro f bT A outer s0 H E hr;have hu:=hr.units;have yR:=g8 hr;exact (ai (bB (aS fX cW (aZ aE aH (ak 0) aj (λ_ _=>rfl)) bA (aD _)) (aq (aw bA)) aJ)
 (ai (bB (aS fX cW (aZ aE aH (ak 0) aj (λ_ _=>rfl)) bA (aD _)) (aq (aw (a_ d9 c9 bA (av (cw T) (rm hr) (aa (aZ aE aH (ak 0) aj (λ_ _=>rfl)) ah))))) aJ)
 (ai (bB (aS fX cW (aZ aE aH (ak 0) aj (λ_ _=>rfl)) bA (aD _)) (aq (aw (a_ d9 c9 (a_ d9 c9 (a_ d9 c9 bA (av (cw T) (rm hr) (aa (aZ aE aH (ak 0) aj (λ_ _=>rfl)) ah))) bA) (av F__law_text (rm hr) (aa (aZ aE aH (ak 0) aj (λ_ _=>rfl)) ah))))) aJ)
 (ai (bB (aS fX cW (aZ aE aH (ak 0) aj (λ_ _=>rfl)) bA (aD _)) (ai (bo (i:=1) gO.nd (lV (aa (cz (ag iH) ["plan","orders","ways"] ["order"] [Z] rfl (bX (aZ aE aH (ak 0) aj (λ_ _=>rfl))) (λYq=>⟨(aQ (i:=0) (show (["order"]:List Str).Nodup by decide+kernel)),aX,(av (cw T) (rm hr) (aa (ak 0) ah))⟩)) ah)))
 (aq (aw (a_ d9 c9 (a_ d9 c9 (a_ d9 c9 bA (ak 1)) bA) (av F__law_text (rm hr) (aa (aZ aE aH (ak 0) aj (λ_ _=>rfl)) ah)))))) aJ)
 (ai (wy (i:=2) (ag iH) ["plan","orders","ways"] ["seen","part"] [Z,Z] gO.nd rfl (bX (aZ aE aH (ak 0) aj (λ_ _=>rfl))) (λYq=>⟨(Hu rfl (nR (aQ (i:=0) (show (["seen","part"]:List Str).Nodup by decide+kernel)) (nR (aQ (i:=1) (show (["seen","part"]:List Str).Nodup by decide+kernel)) CZ))),aX,(a_ d9 c9 (a_ d9 c9 (av (cw T) (rm hr) (aa (ak 0) ah)) bA) (av F__law_text (rm hr) (aa (ak 1) ah)))⟩))
 (aq (aw (a_ d9 c9 (a_ d9 c9 (a_ d9 c9 (a_ d9 c9 bA (av (cw T) (rm hr) (aa (aZ aE aH (ak 0) aj (λ_ _=>rfl)) ah))) bA) (lV (aa (ak 2) ah))) bA))))))))
theorem mI (T:Al P w K mg cX):∀n,Fn P w K mg base "_law_plain" (n+1) ["thing"] (ji K 1 (aM n) .S):=by
 intro n
 induction n with
 |zero=>
  refine Df.fnD (N:=["thing"]) (ps:=["thing"]) (st:=gZ) (k:=0) oJ .S (d_ 0) T.D.q30 mF mG rfl (by decide) ?_;intro f bT A outer s0 H E hr;have hu:=hr.units;have yR:=g8 hr;exact jK
 |succ n F__law_plain=>
  refine Df.fnD (N:=["thing"]) (ps:=["thing"]) (st:=gZ) (k:=n+1) oJ .S (d_ (n+1)) T.D.q30 mF mG rfl (by decide) ?_;intro f bT A outer s0 H E hr;have hu:=hr.units;have yR:=g8 hr;exact (ai (bB (eA (dF (T:="tuple") (by decide) (ak 0) T.zdq T.ziq bN)) (aq (aw (g9 (dB hu) (cZ (f:=id)) (cz (ag gZ) ["thing"] ["part"] [Z] rfl (bX (ak 0)) (λYq=>⟨(aQ (i:=0) (show (["part"]:List Str).Nodup by decide+kernel)),(zm (eK (eA (av F__law_plain (rm hr) (aa (ak 0) ah))))),(ak 0)⟩)) (gp ah) (aD _)))) aJ)
 (aq (aw (Tt (ha:=(dF (T:="str") (by decide) (ak 0) T.zdq T.zsq xB)) (hb:=(i9 (ic (ha:=(dF (T:="int") (by decide) (ak 0) T.zdq T.zoq xA)) (hb:=(i9 (Hn (dF (T:="bool") (by decide) (ak 0) T.zdq T.zkq CY)))))))))))
def yx (T:Al P w K mg cX):Fn P w K mg base "plan_read" 23 ["text","many"] (ji K 2 dW .S):=yt (P:=P) (w:=w) (base:=base) T.toTxt T.XT (Cp T) (λn=>(qW T n).2) T.D.q14
def AR (T:Al P w K mg cX):Fn P w K mg base "row_read" 4 ["text"] (ji K 1 fM .S):=AM (P:=P) (w:=w) (base:=base) T.toTxt T.XT (FX T) (gc T) T.D.q15
def Q7 (T:Al P w K mg cX)(FL:rl K "law" "law" yk f fd)(hp:∀ns:List Int,ns.length<=63->Aq [.scr (ns.map .int)]=.ok (.bl M)):fc P w K mg base kg 24 f fd ["script"] (zo K):=by
 refine P_ (f:=Aq) ?_ hp;refine rl.okD (N:=["script","k","state","many","rows","plan","text","found"]) (ps:=["script"]) (st:=yk) (k:=23) JF .S JG FL jY rfl (by decide) ?_;intro f bT A outer s0 H E hr;have hu:=hr.units;have yR:=g8 hr;exact (ai (mS ŀ rfl (d7 (aa (aK (EO rfl) HA (by rfl) T.zqq PV (aa aj (aa (aK (v_ rfl) zx (by rfl) T.zrq He (aa (aK bD bV (by rfl) T.zmq cy (aa (ak 0) ah)) (aa aj ah))) ah))) ah) T.zhq) (aQ (i:=1) jY.nd)
 (ai (jH (i:=2) jY.nd (av (vS T) (rm hr) (aa (ak 0) (aa (ak 1) ah))))
 (ai (bo (i:=3) jY.nd (a_ bZ b_ aj (aT (i:=2) (br T) (rm hr) (aa aj ah))))
 (ai (E6 (i:=4) (ag yk) ["script","k","state","many","rows","plan","text","found"] ["j","state","many"] [Z,J 2,J 3] jY.nd rfl (d7 (aa aj ah) T.zhq) (λYq=>⟨(aQ (i:=0) (show (["j","state","many"]:List Str).Nodup by decide+kernel)),aX,(aT (i:=1) (AQ T) (rm hr) (aa (ak 2) ah))⟩))
 (ai (bo (i:=5) jY.nd (aT (i:=2) (vT T) (rm hr) (aa (ak 4) (aa (a_ bZ b_ aj (aT (i:=2) (br T) (rm hr) (aa (a_ ph lK aj (cD wa Dd (by rfl) T.zoq xA (aa (g9 qg mV (ak 3) aj (aD _)) ah))) ah))) (aa eR ah)))))
 (ai (bo (i:=6) jY.nd (av ((yw T) 20) (rm hr) (aa (ak 5) ah)))
 (ai (bB (aS yZ sf (av (qW T 20).2 (rm hr) (aa (ak 5) ah)) (ak 6) (aD _)) (aq (aw eR)) aJ)
 (ai (bB (aS nG kL (aK bD bV (by rfl) T.zmq cy (aa (ak 6) ah)) aj (aD _)) (ai (bo (i:=7) jY.nd (av (yx T) (rm hr) (aa (ak 6) (aa (ak 3) ah))))
 (aq (bB (DW.dt (j6 (aS (Hb hu) (cZ (f:=not)) (ak 7) (ak 5) (aD _)) (g_ (eK (eA (av ((mI T) 20) (rm hr) (aa (ak 7) ah))))))) (aq (aw eR)) aJ))) aJ)
 (ai (bo (i:=7) jY.nd (av (AR T) (rm hr) (aa (av (cw T) (rm hr) (aa (aZ aE aH (ak 4) aj (λ_ _=>rfl)) ah)) ah)))
 (aq (bB (DW.dt (j6 (aS yZ sf (av (gc T) (rm hr) (aa (aZ aE aH (ak 4) aj (λ_ _=>rfl)) ah)) (av (cw T) (rm hr) (aa (aZ aE aH (ak 4) aj (λ_ _=>rfl)) ah)) (aD _)) (j6 (aS (Hb hu) (cZ (f:=not)) (ak 7) (aZ aE aH (ak 4) aj (λ_ _=>rfl)) (aD _)) (g_ (eK (eA (av ((mI T) 20) (rm hr) (aa (ak 7) ah)))))))) (aq (aw eR)) aJ)))))))))))
 (aq (aw eR)))
end
theorem all_mk {fa:Õ}(X:K.In h)(G:h.Ns ç mg)(Z0:mg "law"=J (.ref fa))(Q:Ds (OJ K))(zpq:û K ç "all"=J Z)(zkq:û K ç "bool"=J Z)(zoq:û K ç "int"=J Z)(zdq:û K ç "isinstance"=J Z)(zmq:û K ç "len"=J Z)(zjq:û K ç "list"=J Z)(zqq:û K ç "max"=J Z)(zrq:û K ç "min"=J Z)(zhq:û K ç "range"=J Z)(zlq:û K ç "set"=J Z)(zgq:û K ç "sorted"=J Z)(zsq:û K ç "str"=J Z)(znq:û K ç "sum"=J Z)(ziq:û K ç "tuple"=J Z)(ztq:û K ç "zip"=J Z){jz:Tok}(zaq:û K ç "GREATEST_CARD"=J (J (.int 9 jz))){mL:Tok}(zfq:û K ç "MOST_CARDS"=J (J (.int 8 mL))){lE:Tok}(zcq:û K ç "MOST_ORDERS"=J (J (.int 24 lE))){mM:Tok}(zeq:û K ç "MOST_PLANS"=J (J (.int 60 mM))){lF:Tok}(zbq:û K ç "MOST_WITHIN"=J (J (.int 12 lF)))(XS:û K ç "Reader"=J (J (.ref cX)))(XU:VH K "Reader" "Reader.__init__" (kR 0) ["words","at"])(Sb:vQ K cX "coming" "Reader.coming" 1)(Sd:vQ K cX "take" "Reader.take" 2)(Se:vQ K cX "takes" "Reader.takes" 3)(Sf:vQ K cX "need" "Reader.need" 4)(Sg:vQ K cX "read_numbers" "Reader.read_numbers" 5)(Sh:vQ K cX "read_orders" "Reader.read_orders" 6)(Si:vQ K cX "read_way" "Reader.read_way" 7)(Sj:vQ K cX "read_ways" "Reader.read_ways" 8)(Sk:vQ K cX "read_plan" "Reader.read_plan" 9)(Sl:OJ K "is_number" FV)(Sm:OJ K "number_of" AI)(XW:JL w K "FIGURES" Cb)(hp:∀ns:List Int,ns.length<=63->Aq [.scr (ns.map .int)]=.ok (.bl M))
  : ∃fd:ĭ,(∀(s:Ã) (v:F),BindsTo s fd ⟨[v],[]⟩ [("script",v)])/\∀base:Í,K.In base->base.Ns ç mg->fc PySem.Challenge.pw_hushcards_k81_plans_and_rows_written w K mg base kg 24 fa fd ["script"] (zo K):=by
 obtain @⟨f_,od_,an31,sl_,oc_,kV31,dc31,pm31,cd31,ct31,a31,l31,c31,k31⟩:=Q.q31;have e:=Z0.symm.trans (ń X G a31);cases e;have T:Txt mg:=⟨ě X G zpq,ě X G zkq,ě X G zoq,ě X G zdq,ě X G zmq,ě X G zjq,ě X G zqq,ě X G zrq,ě X G zhq,ě X G zlq,ě X G zgq,ě X G zsq,ě X G znq,ě X G ziq,ě X G ztq,⟨_,ń X G zaq⟩,⟨_,ń X G zfq⟩,⟨_,ń X G zcq⟩,⟨_,ń X G zeq⟩,⟨_,ń X G zbq⟩⟩;have FL:=xy (st:=yk) l31 c31 k31;refine⟨Ĉ "law" "law" (di yk) (aU yk) (ag yk) .none kV31 dc31 pm31 an31 cd31 ct31,λs v=>.of_eq rfl,λbase _ _=>?_⟩;have XT:=Q5 (P:=PySem.Challenge.pw_hushcards_k81_plans_and_rows_written) (w:=w) X G XS XU Sb Sd Se Sf Sg Sh Si Sj Sk Sl Sm XW;exact Q7 (P:=PySem.Challenge.pw_hushcards_k81_plans_and_rows_written) (w:=w) (base:=base) ⟨T,⟨Q.q0.of X G,Q.q1.of X G,Q.q2.of X G,Q.q3.of X G,Q.q4.of X G,Q.q5.of X G,Q.q6.of X G,Q.q7.of X G,Q.q8.of X G,Q.q9.of X G,Q.q10.of X G,Q.q11.of X G,Q.q12.of X G,Q.q13.of X G,Q.q14.of X G,Q.q15.of X G,Q.q16.of X G,Q.q17.of X G,Q.q18.of X G,Q.q19.of X G,Q.q20.of X G,Q.q21.of X G,Q.q22.of X G,Q.q23.of X G,Q.q24.of X G,Q.q25.of X G,Q.q26.of X G,Q.q27.of X G,Q.q28.of X G,Q.q29.of X G,Q.q30.of X G,Q.q31.of X G⟩,XT⟩ FL hp
end Hc
namespace Hc
open L2
end Hc
namespace Hc
open L2
def OM {f:Bool->Bool}{u w:U}:gI f u w=(QL u w).bind λb=>.ok (.bl (f b)):=nr rfl
def bu {a b:Int}:QL (.int a) (.int b)=.ok (a==b):=nr rfl
def gQ {a b:Str}:QL (.str a) (.str b)=.ok (a==b):=nr rfl
def bM:=zyy @å.{0,0}<|zyy @afp.{0,0}<|zyy @Ò.{0}<|zyy @š.{0}<|zyy @ϡ.{0}<|zyy @Τ.{0}<|zyy @List.replicate_succ.{0}<|zyy @List.replicate_zero.{0}<|zyy @List.getElem?_cons_zero.{0}<|zyy @ν.{0}<|zyy @ŵ.{0}<|zyy @Ŷ.{0}<|zyy @aeK.{0}<|zyy @if_true.{1}<|zyy @if_false.{1}<|zyy @đ<|zyy @NI<|zyy @ū<|zyy @Ŭ<|zyy @OM<|zyy @bu @gQ
end Hc
namespace Hc
open L2
def NS:(0:Nat)<=Â/\(1:Nat)<=Â/\(2:Nat)<=Â/\(3:Nat)<=Â/\(4:Nat)<=Â/\(5:Nat)<=Â/\(6:Nat)<=Â/\(10:Nat)<=Â/\(16:Nat)<=Â/\(18:Nat)<=Â/\(22:Nat)<=Â:=by decide
def Pzz:=zyy @ar<|zyy @bM @NS
theorem eH {α:Type}{f:U->R (Option U)}{c g:α->U}:∀{xs:List α},(∀x∈xs,f (c x)=.ok (J (g x)))->iS f (xs.map c)=.ok (xs.map g)
 | [],_=>rfl
 |x::xs,h=>by
  rw[å,å];unfold iS;rw[h x Ú];show (iS f (xs.map c)).bind _=_;rw[eH λy hy=>h y (Ý _ hy)];rfl
def JN {ws:List U}:fU (.lst us) [.lst ws]=if us.length+ws.length<=Â then .ok (.non,.lst (us++ws)) else .stk:=nr rfl
theorem gf (us:List U)(k:Nat):jt us Z (J (k:Int))=us.take k:=by
 unfold jt;rw[HT.sIx_none,HT.sIx_nat,List.drop_zero,Nat.sub_zero];simp
theorem k9 (us:List U)(k:Nat):jt us (J (k:Int)) Z=us.drop k:=by
 unfold jt;rw[HT.sIx_none,HT.sIx_nat];rcases Nat.le_total k us.length with h|h
 ·rw[ŧ h,Ξ (by rw[ē];lia)]
 simp[*]
def kr (s:U):Prop:=∃v b,s=.lst [.int v,.bl b]/\0<=v/\(b=Y->v<2147483647)
theorem cY {s:U}{m:Int}(h:kr s)(h0:0<m)(h1:m<18446744073709551616):∃r s',aB [s,.int m]=.ok (.int r,s')/\0<=r/\r<m/\kr s':=by
 obtain⟨v,b,rfl,hv,hb⟩:=h;cases b with
 |true=>
  refine⟨v % m,.lst [.int (v / m),.bl M],?_,ϓ _ (by lia),ϒ _ h0,v / m,M,rfl,Int.ediv_nonneg hv (by lia),λh=>nomatch h⟩;simp only[aB,iW,Pzz,bF,Nat.reduceAdd,Nat.reduceSub,hG h0,xK h0 h1,DR]
 |false=>
  have g1:0<=(v*48271+29) % 2147483647:=ϓ _ (by decide);have g2:(v*48271+29) % 2147483647<2147483647:=ϒ _ (by decide);have c1:n8 v 48271=M:=Ql (by decide) (by decide);have d1:decide ((0:Int)<2147483647)=M:=by decide
  have d2:decide ((0:Int)<2147483629)=M:=by decide
  have d3:decide ((0:Int)<2147483587)=M:=by decide
  have e8:BN (((((v*48271+29) % 2147483647)*((v*48271+29) % 2147483647)+39373*((v*48271+29) % 2147483647)+7) % 2147483629*((((v*48271+29) % 2147483647)*((v*48271+29) % 2147483647)+39373*((v*48271+29) % 2147483647)+7) % 2147483629)+16807*((((v*48271+29) % 2147483647)*((v*48271+29) % 2147483647)+39373*((v*48271+29) % 2147483647)+7) % 2147483629)) % 2147483587) 8=M:=xK (by decide) (by decide);have c2:n8 ((v*48271+29) % 2147483647) ((v*48271+29) % 2147483647)=M:=pR g1 (by lia);have c3:n8 39373 ((v*48271+29) % 2147483647)=M:=pR (by decide) (by decide);generalize hs:(v*48271+29) % 2147483647=s1 at *;have g3:0<=(s1*s1+39373*s1+7) % 2147483629:=ϓ _ (by decide);have g4:(s1*s1+39373*s1+7) % 2147483629<2147483629:=ϒ _ (by decide);have c4:n8 ((s1*s1+39373*s1+7) % 2147483629) ((s1*s1+39373*s1+7) % 2147483629)=M:=pR g3 (by grind);have c5:n8 16807 ((s1*s1+39373*s1+7) % 2147483629)=M:=pR (by decide) (by decide);refine⟨((s1*s1+39373*s1+7) % 2147483629*((s1*s1+39373*s1+7) % 2147483629)+16807*((s1*s1+39373*s1+7) % 2147483629)) % 2147483587 / 8 % m,.lst [.int s1,.bl Y],?_,ϓ _ (by lia),ϒ _ h0,s1,Y,rfl,g1,λ_=>g2⟩
  ·simp only[aB,iW,Pzz,bF,Nat.reduceAdd,Nat.reduceSub,hG h0,c1,d1,d2,d3,hs,c2,c3,c4,c5,e8,DR]
theorem JO {us:List U}{k:Int}(hu:u=.scr (ns.map .int)\/u=.lst (ns.map .int))(h0:0<=k):∃s,fw [u,.int k]=.ok s/\kr s:=by
 obtain⟨k,rfl⟩:∃n:Nat,k=n:=⟨k.toNat,by (simp;lia)⟩;have rg:∃c:Int,dX [u,.int k]=.ok (.int c):=by
  by_cases hk:k<ns.length
  ·refine⟨ns[k],?_⟩;have d:decide ((k:Int)<((ns.map U.int).length:Nat))=M:=by rw[Æ];exact hG (by simp[*])
   have e:kz (ns.map U.int) (k:Int)=J (.int ns[k]):=by rw[oq,ă,Ø hk];rfl
   rcases hu with rfl|rfl<;>simp only[dX,fv,Pzz,bF,Nat.reduceAdd,Nat.reduceSub,d,e]
  ·refine⟨0,?_⟩;have d:decide ((k:Int)<((ns.map U.int).length:Nat))=Y:=by rw[Æ];exact hJ (by simp[*])
   rcases hu with rfl|rfl<;>simp only[dX,fv,Pzz,bF,Nat.reduceAdd,Nat.reduceSub,d]
 obtain⟨c,hc⟩:=rg;have YR:LQ 10 18=M:=by decide
 have YS:(10:Int) ^ (18:Int).toNat=1000000000000000000:=by decide
 have dm:decide ((0:Int)<2147483647)=M:=by decide
 by_cases h:1000000000000000000<=c
 ·refine⟨.lst [.int (c-1000000000000000000),.bl M],?_,_,M,rfl,by lia,λh=>nomatch h⟩;simp only[fw,gJ,Pzz,bF,Nat.reduceAdd,Nat.reduceSub,hc,YR,YS,hG h,hV]
 ·refine⟨.lst [.int (c % 2147483647),.bl Y],?_,_,Y,rfl,ϓ _ (by decide),λ_=>ϒ _ (by decide)⟩;simp only[fw,gJ,Pzz,bF,Nat.reduceAdd,Nat.reduceSub,hc,YR,YS,hJ h,dm,hV]
theorem uX {α:Type}:∀(l:List α) (i:Nat) (h:i<l.length),(l[i]::l.eraseIdx i).Perm l
 |x::l,0,_=>Ŀ _
 |x::l,i+1,h=>by
  have h':i<l.length:=by simpa using h
  show (l[i]::x::l.eraseIdx i).Perm (x::l);exact (List.Perm.swap _ _ _).trans (List.Perm.cons x (uX l i h'))
theorem oX {α β:Type}(f:α->β):∀(l:List α) (i:Nat),(l.map f).eraseIdx i=(l.eraseIdx i).map f
 | [],_=>rfl
 |_::_,0=>rfl
 |x::l,i+1=>by
  show f x::(l.map f).eraseIdx i=f x::(l.eraseIdx i).map f;rw[oX f l i]
theorem Q9 {k:Int}{y:U}(h1:ų k us.length=J j)(h2:us[j]? = J y)(h3:0<=k)(h4:k<1000000000):pM (.lst us) [.int k]=.ok (y,.lst (us.eraseIdx j)):=by
 unfold pM;dsimp only;rw[hV (by lia),h1];dsimp only;rw[h2]
def iI (n:Nat)(os:List Int):Prop:=os.Perm (aY n)
theorem k_ {s:U}(h:kr s)(h1:m<=1000):∃(os:List Int) (s':U),cB [s,.int m]=.ok (.tup (os.map .int),s')/\iI m os/\kr s':=by
 obtain⟨ys,⟨left,s'⟩,e,l,os,hr,hp,mK⟩:=ju (G:=jU) (js:=[Z,J 2,J 0]) (sg:=cx 0) (ge:=gM "list" 1 pM (ae (jr 2 2 aB (ae (dq dI (ae (af 1) ao)) ao)) ao))
  (λx:List Int×U=>[J x.2,J (.int m),J (.lst (x.1.map .int))]) m (λys x=>∃os:List Int,ys=os.map .int/\(os++x.1).Perm (aY m)/\kr x.2)
  (λdone u x hd h00=>by
   obtain⟨os,hr,hp,hs⟩:=h00;obtain⟨left,s⟩:=x;have hl:0<left.length:=by
    have:=hp.length_eq;rw[Þ,fI] at this;grind
   have Nb:left.length<=m:=by
    have:=hp.length_eq;rw[Þ,fI] at this;lia
   obtain⟨r,s',b1,b2,b3,b4⟩:=cY (m:=left.length) hs (by simp[*]) (by lia);obtain⟨k,rfl⟩:∃n:Nat,r=n:=⟨r.toNat,by lia⟩;have hk:k<left.length:=by simp_all
   refine⟨[J u,J (.lst (left.map .int)),J s],.int left[k],[J u,J (.lst ((left.eraseIdx k).map .int)),J s'],(left.eraseIdx k,s'),rfl,?_,rfl,os++[left[k]],by rw[hr,Ą];rfl,?_,b4⟩
   ·have hx:ų (k:Int) (left.map U.int).length=J k:=by
     grind[ų,Æ]
    have hy:(left.map U.int)[k]? = J (.int left[k]):=by rw[ă,Ø hk];rfl
    have pp:=Q9 hx hy (by lia) (by (simp at *;lia));simp_all[oX,Pzz,bF,Nat.reduceAdd,Nat.reduceSub,Æ]
   ·rw[õ];refine List.Perm.trans (Ŗ os ?_) hp;exact uX left k hk) (aN 0 m) [] (aY m,s) (by rw[bx];simp) ⟨[],rfl,Ŀ _,h⟩
 rw[bx] at l;have ln:os.length=m:=by
  grind
 have le:left=[]:=by
  have:=hp.length_eq;simp_all[Þ,fI,ş]
 subst le;rw[ā] at hp;rw[Τ] at hr;dsimp only at e;refine⟨os,s',?_,hp,mK⟩;rw[hr] at e;simp only[cB,jV,Pzz,bF,Nat.reduceAdd,Nat.reduceSub,jL m (by lia),DM m (by lia),iy] at e |-;simp only[Pzz,bF,Nat.reduceAdd,Nat.reduceSub,e]
noncomputable def tO (os:List Int):U:=.tup (os.map .int)
def oY (n:Nat):aN 0 n=(ê n).map λi=>U.int (i:Nat):=by
 rw[iy];unfold aY;rw[ö];rfl
def AS (n:Nat):aY (n+1)=aY n++[(n:Int)]:=by
 unfold aY;rw[List.range_succ,Ą];rfl
def AU {z:Nat}(h:z<=m):(aY m).take z=aY z:=by
 unfold aY;rw[<-τ,List.take_range,ŧ h]
def MA (us:List U)(a b:Nat)(h:a<=b)(h2:b<=us.length):jt us (J (a:Int)) (J (b:Int))=(us.drop a).take (b-a):=by
 unfold jt;rw[HT.sIx_nat,HT.sIx_nat,ŧ h2,ŧ (ä h h2)]
noncomputable def Q_:Nat->Nat
 |0=>1
 |n+1=>Q_ n*(n+1)
def JP (h:os.Perm (aY k)):(os.take j++[(k:Int)]++os.drop j).Perm (aY (k+1)):=by
 rw[AS,õ];refine (Ŏ).trans ?_;rw[õ];have:(os.drop j++os.take j).Perm (aY k):=(Ŏ).trans (by rw[Ł];exact h);exact ((Ŗ [(k:Int)] this)).trans Ŏ
theorem MB {a b c d e f g:Option U}{oss:List (List Int)}(hk:k<=8)(hl:oss.length<=1000)(hp:∀os∈oss,os.Perm (aY k))(v4:Option U) :
  ∃(ls:List (List Int)) (v4':Option U),kF (cx 4) (j7 (gM "list" 9 fU (ae (dH (ig (ae (aI de (af 8) (gC (.int 1))) ao)) [Z,J 4,J 8] (cx 0) bK (aI de (aI de (qm n_ (af 1) dw (cV (af 0))) (eD (ae (af 2) ao))) (qm n_ (af 1) (cV (af 0)) dw))) ao))) (oss.map tO)
   [a,b,c,d,v4,e,f,g,J (.int k),J (.lst [])]=.nx [a,b,c,d,v4',e,f,g,J (.int k),J (.lst (ls.map tO))]/\ls.length=oss.length*(k+1)/\∀os∈ls,os.Perm (aY (k+1)):=by
 obtain⟨B',e1,ls,v,e2,l2,p2⟩:=gW (us:=oss.map tO) (sg:=cx 4) (s:=j7 (gM "list" 9 fU (ae (dH (ig (ae (aI de (af 8) (gC (.int 1))) ao)) [Z,J 4,J 8] (cx 0) bK (aI de (aI de (qm n_ (af 1) dw (cV (af 0))) (eD (ae (af 2) ao))) (qm n_ (af 1) (cV (af 0)) dw))) ao)))
  (λi B=>∃(ls:List (List Int)) (v:Option U),B=[a,b,c,d,v,e,f,g,J (.int k),J (.lst (ls.map tO))]/\ls.length=i*(k+1)/\∀os∈ls,os.Perm (aY (k+1)))
  (λi u B hu h00=>by
   obtain⟨ls,v,hr,Nb,KO⟩:=h00;subst hr;rw[ă] at hu;cases ho:oss[i]? with
   |none=>rw[ho] at hu;cases hu
   |some os=>
    rw[ho] at hu;cases hu;have K5:=hp os (į ho);have lo:os.length=k:=by have:=K5.length_eq;rwa [fI] at this
    have hi:i<oss.length:=by
     rcases ņ i oss.length with z|z
     ·exact z
     ·rw[Ϙ.mpr z] at ho;cases ho
    have sz:Â=16777216:=rfl;have e0:iS (j8 [Z,J 4,J 8] (cx 0) bK (aI de (aI de (qm n_ (af 1) dw (cV (af 0))) (eD (ae (af 2) ao))) (qm n_ (af 1) (cV (af 0)) dw)) [a,b,c,d,J (tO os),e,f,g,J (.int k),J (.lst (ls.map tO))]) ((ê (k+1)).map λi=>U.int (i:Nat))=.ok ((ê (k+1)).map λj=>tO (os.take j++[(k:Int)]++os.drop j)):=
     eH λj hj=>by
      have q1:((os.map U.int).take j).length+1<=Â:=by (simp at *;lia)
      have q2:((os.map U.int).take j++[U.int k]).length+((os.map U.int).drop j).length<=Â:=by (simp at *;lia)
      simp only[Pzz,bF,Nat.reduceAdd,Nat.reduceSub,tO,gf,k9,q1,q2];simp
    have hm:i*(k+1)<=1000*9:=Nat.mul_le_mul (by lia) (by lia);have q3:(ls.map tO).length+((ê (k+1)).map λj=>tO (os.take j++[(k:Int)]++os.drop j)).length<=Â:=by
     rw[Æ,Æ,ĝ];(simp at *;lia)
    have ek:(k:Int)+1=((k+1:Nat):Int):=rfl;refine⟨[a,b,c,d,J (tO os),e,f,g,J (.int k),J (.lst (ls.map tO))],[a,b,c,d,J (tO os),e,f,g,J (.int k),J (.lst ((ls++(ê (k+1)).map λj=>os.take j++[(k:Int)]++os.drop j).map tO))],rfl,.inl ?_,_,_,rfl,?_,?_⟩
    ·simp only[Pzz,bF,Nat.reduceAdd,Nat.reduceSub,ek,jL (k+1) (by lia),oY,e0,JN,q3];simp only[Ą,ö];rfl
    ·rw[Þ,Æ,ĝ,Nb,Nat.add_mul,Nat.one_mul]
    ·intro x hx;rcases ñ.mp hx with z|z
     ·exact KO x z
     ·obtain⟨j,_,rfl⟩:=á.mp z;exact JP K5) (B:=[a,b,c,d,v4,e,f,g,J (.int k),J (.lst [])]) ⟨[],v4,rfl,by simp,λx hx=>by cases hx⟩
 subst e2;rw[Æ] at l2;exact⟨ls,v,e1,l2,p2⟩
def JQ (l:List Int)(k:Nat):(l.drop k++l.take k).Perm l:=(Ŏ).trans (by rw[Ł])
def FZ (l:List Int)(h:Nat):(((l.drop h).take h++l.take h)++l.drop (h+h)).Perm l:=by
 grind[ϩ,Ł,Ŏ,ŭ,trans,õ]
def lY (m:Nat)(r:R (U×U)):Prop:=∃(oss:List (List Int)) (s':U),r=.ok (.tup (oss.map tO),s')/\(∀os∈oss,iI m os)/\1<=oss.length/\oss.length<=24/\kr s'
theorem MC {s:U}{w:Int}(h8:m<=8)(e1:aB [s,.int 6]=.ok (.int w,s1))(jA:kr s1)(hw:w=4\/w=5):lY m (bp [s,.int m]):=by
 have sz:Â=16777216:=rfl;obtain⟨t,s2,e2,t0,t1,iK⟩:=cY (m:=4) jA (by decide) (by decide);obtain⟨n,hn⟩:∃n:Nat,1+t=n:=⟨(1+t).toNat,by lia⟩;obtain⟨ys,s3,e3,ly,oss,hy,ho,hs3⟩:=ju (G:=iE) (js:=[Z,J 0,J 1]) (sg:=cx 0) (ge:=jr 2 1 cB (ae (af 2) ao))
  (λx:U=>[J x,J (.int m),J (.tup (aN 0 m)),J (.int w),Z,Z,Z,Z,Z,Z]) n (λys x=>∃oss:List (List Int),ys=oss.map tO/\(∀os∈oss,iI m os)/\kr x)
  (λdone u x hd h00=>by
   obtain⟨oss,hr,hp,hs⟩:=h00;obtain⟨os,x',b1,b2,b3⟩:=k_ (m:=m) hs (by lia);refine⟨[J u,J x,J (.int m)],tO os,[J u,J x',J (.int m)],x',rfl,?_,rfl,oss++[os],by rw[hr,Ą];rfl,?_,b3⟩
   ·simp only[Pzz,bF,Nat.reduceAdd,Nat.reduceSub,b1,tO]
   ·intro y hy;rcases ñ.mp hy with z|z
    ·exact hp y z
    ·rw[ð.mp z];exact b2) (aN 0 n) [] s2 (by rw[bx];simp) ⟨[],rfl,(λx hx=>by cases hx),iK⟩
 rw[Τ] at hy;rw[bx] at ly;have lo:oss.length=n:=by
  grind
 refine⟨oss,s3,?_,ho,by lia,by lia,hs3⟩;rw[hy] at e3;rcases hw with rfl|rfl<;>simp only[bp,cF,Pzz,bF,Nat.reduceAdd,Nat.reduceSub,om m (by lia),e1,bu,Int.reduceBEq,id,e2,hn,jL n (by lia),e3]
theorem Ra {s:U}(h1:1<=m)(h8:m<=8)(e1:aB [s,.int 6]=.ok (.int 0,s1))(jA:kr s1):lY m (bp [s,.int m]):=by
 have sz:Â=16777216:=rfl;have e0:iS (j8 [Z,J 2] (cx 0) bK (aI de (qm n_ (af 1) (cV (af 0)) dw) (qm n_ (af 1) dw (cV (af 0)))) [J s1,J (.int m),J (.tup (aN 0 m)),J (.int 0),Z,Z,Z,Z,Z,Z]) (aN 0 m)
   = .ok ((ê m).map λk=>.tup ((aN 0 m).drop k++(aN 0 m).take k)):=by
  have:=eH (f:=j8 [Z,J 2] (cx 0) bK (aI de (qm n_ (af 1) (cV (af 0)) dw) (qm n_ (af 1) dw (cV (af 0)))) [J s1,J (.int m),J (.tup (aN 0 m)),J (.int 0),Z,Z,Z,Z,Z,Z])
   (c:=λi:Nat=>U.int (i:Nat)) (g:=λk=>.tup ((aN 0 m).drop k++(aN 0 m).take k)) (xs:=ê m) λk hk=>by
    have q:((aN 0 m).drop k).length+((aN 0 m).take k).length<=Â:=by rw[ē,ÿ,bx];grind
    simp only[Pzz,bF,Nat.reduceAdd,Nat.reduceSub,gf,k9,q]
  rwa [<-oY] at this
 refine⟨(ê m).map λk=>(aY m).drop k++(aY m).take k,s1,?_,?_,by rw[Æ,ĝ];exact h1,by rw[Æ,ĝ];lia,jA⟩
 ·simp only[bp,cF,Pzz,bF,Nat.reduceAdd,Nat.reduceSub,om m (by lia),e1,bu,Int.reduceBEq,id,jL m (by lia),e0];simp[ö,tO,iy,Ą,List.map_drop,τ]
 ·intro os ho;obtain⟨k,_,rfl⟩:=á.mp ho;exact JQ _ _
theorem Rb {s:U}(h8:m<=8)(e1:aB [s,.int 6]=.ok (.int 1,s1))(jA:kr s1):lY m (bp [s,.int m]):=by
 obtain⟨os,s2,b1,b2,b3⟩:=k_ (m:=m) jA (by lia);refine⟨[aY m,os],s2,?_,?_,by simp,by simp,b3⟩
 ·simp only[bp,cF,Pzz,bF,Nat.reduceAdd,Nat.reduceSub,om m (by lia),e1,bu,Int.reduceBEq,id,b1,tO,iy]
 ·intro x hx;simp only[à,ţ,or_false] at hx;rcases hx with rfl|rfl
  ·exact Ŀ _
  ·exact b2
theorem MD {s:U}(h1:1<=m)(h8:m<=8)(e1:aB [s,.int 6]=.ok (.int 2,s1))(jA:kr s1):lY m (bp [s,.int m]):=by
 have sz:Â=16777216:=rfl;have d1:BN (m:Int) 2=M:=xK (by decide) (by decide);have d2:n8 2 ((m / 2:Nat):Int)=M:=pR (by decide) (by decide);have e2:(m:Int) / 2=((m / 2:Nat):Int):=by lia
 have e3:(2:Int)*((m / 2:Nat):Int)=((m / 2+m / 2:Nat):Int):=by lia
 have c1:jt (aN 0 m) (J ((m / 2:Nat):Int)) (J ((m / 2+m / 2:Nat):Int))=((aN 0 m).drop (m / 2)).take (m / 2):=by
  rw[MA _ _ _ (by lia) (by rw[bx];lia),Nat.add_sub_cancel]
 have q1:(((aN 0 m).drop (m / 2)).take (m / 2)).length+((aN 0 m).take (m / 2)).length<=Â:=by rw[ÿ,ē,ÿ,bx];lia
 have q2:(((aN 0 m).drop (m / 2)).take (m / 2)++(aN 0 m).take (m / 2)).length+((aN 0 m).drop (m / 2+m / 2)).length<=Â:=by rw[Þ,ÿ,ē,ÿ,ē,bx];lia
 refine⟨[aY m,((aY m).drop (m / 2)).take (m / 2)++(aY m).take (m / 2)++(aY m).drop (m / 2+m / 2)],s1,?_,?_,by simp,by simp,jA⟩
 ·simp only[bp,cF,Pzz,bF,Nat.reduceAdd,Nat.reduceSub,om m (by lia),e1,bu,Int.reduceBEq,id,d1,e2,d2,e3,c1,gf,k9,q1,q2];simp only[tO,Ą,τ,List.map_drop,iy]
 ·intro x hx;simp only[à,ţ,or_false] at hx;rcases hx with rfl|rfl
  ·exact Ŀ _
  ·exact FZ _ _
theorem ON {n:Nat}(h:n<=4):1<=Q_ n/\Q_ n<=24:=by
 have:n=0\/n=1\/n=2\/n=3\/n=4:=by lia
 rcases this with rfl|rfl|rfl|rfl|rfl<;>decide
theorem Rc {s:U}(h1:1<=m)(h8:m<=8)(e1:aB [s,.int 6]=.ok (.int 3,s1))(jA:kr s1):lY m (bp [s,.int m]):=by
 have sz:Â=16777216:=rfl;obtain⟨t,s2,e2,t0,t1,iK⟩:=cY (m:=3) jA (by decide) (by decide);obtain⟨z,hz⟩:∃z:Nat,(if 2+t<(m:Int) then 2+t else (m:Int))=z:=⟨(if 2+t<(m:Int) then 2+t else (m:Int)).toNat,by split<;>lia⟩;have zb:1<=z/\z<=4/\z<=m:=by lia
 obtain⟨B',e3,oss,v4,v8,rfl,l3,p3⟩:=gW (us:=aN 0 z) (sg:=cx 8) (s:=(aG (bL 9 (fZ ao))
 (aG (vE (d6 (af 6)) (cx 4)
 (j7 (gM "list" 9 fU (ae (dH (ig (ae (aI de (af 8) (gC (.int 1))) ao)) [Z,J 4,J 8] (cx 0) bK (aI de (aI de (qm n_ (af 1) dw (cV (af 0))) (eD (ae (af 2) ao))) (qm n_ (af 1) (cV (af 0)) dw))) ao))))
 (zh 6 9))))
  (λi B=>∃(oss:List (List Int)) (v4 v8:Option U),B=[J s2,J (.int m),J (.tup (aN 0 m)),J (.int 3),v4,Z,J (.lst (oss.map tO)),J (.int z),v8,Z]/\oss.length=Q_ i/\∀os∈oss,os.Perm (aY i))
  (λi u B hu h00=>by
   obtain⟨oss,v4,v8,hr,hl,hp⟩:=h00;subst hr;have hi:i<z:=by
    rcases ņ i z with y|y
    ·exact y
    simp_all[bx]
   obtain rfl:u=.int i:=by
    rw[oY,ă,ρ hi] at hu;cases hu;rfl
   obtain⟨ls,v4',g1,g2,g3⟩:=MB (a:=J s2) (b:=J (.int m)) (c:=J (.tup (aN 0 m))) (d:=J (.int 3)) (e:=Z) (f:=J (.lst (oss.map tO))) (g:=J (.int z)) (k:=i) (oss:=oss) (by lia) (by have:=ON (n:=i) (by lia);lia) hp v4;refine⟨[J s2,J (.int m),J (.tup (aN 0 m)),J (.int 3),v4,Z,J (.lst (oss.map tO)),J (.int z),J (.int i),Z],[J s2,J (.int m),J (.tup (aN 0 m)),J (.int 3),v4',Z,J (.lst (ls.map tO)),J (.int z),J (.int i),Z],rfl,.inl ?_,ls,v4',J (.int i),rfl,by rw[g2,hl];rfl,g3⟩;simp only[Pzz,bF,Nat.reduceAdd,Nat.reduceSub,g1])
  (B:=[J s2,J (.int m),J (.tup (aN 0 m)),J (.int 3),Z,Z,J (.lst [.tup []]),J (.int z),Z,Z]) ⟨[[]],Z,Z,rfl,rfl,λx hx=>by rw[ð.mp hx];exact Ŀ _⟩
 rw[bx] at l3 p3;have e4:iS (j8 [Z,J 2,J 7] (cx 0) bK (aI de (af 0) (qm n_ (af 1) (cV (af 2)) dw)) [J s2,J (.int m),J (.tup (aN 0 m)),J (.int 3),v4,Z,J (.lst (oss.map tO)),J (.int z),v8,Z]) (oss.map tO)=.ok (oss.map λos=>tO (os++(aY m).drop z)):=
  eH λos ho=>by
   have lo:os.length=z:=by have:=(p3 os ho).length_eq;rwa [fI] at this
   have q:(os.map U.int).length+((aN 0 m).drop z).length<=Â:=by rw[Æ,ē,bx];lia
   simp only[Pzz,bF,Nat.reduceAdd,Nat.reduceSub,tO,k9,q];simp only[Ą,List.map_drop,iy]
 have fb:=ON (n:=z) zb.2.1;refine⟨oss.map λos=>os++(aY m).drop z,s2,?_,?_,by rw[Æ];lia,by rw[Æ];lia,iK⟩
 ·simp only[bp,cF,Pzz,bF,Nat.reduceAdd,Nat.reduceSub,om m (by lia),e1,bu,Int.reduceBEq,id,e2,hz,jL z (by lia),e3,e4];rw[ö];rfl
 ·intro x hx;obtain⟨os,ho,rfl⟩:=á.mp hx;have:(aY m)=aY z++(aY m).drop z:=by
   rw[<-AU zb.2.2,Ł]
  show (os++_).Perm (aY m);refine (ŭ _ (p3 os ho)).trans ?_;rw[<-this]
theorem Cq {s:U}(h:kr s)(h1:1<=m)(h8:m<=8):lY m (bp [s,.int m]):=by
 obtain⟨w,s1,e1,w0,w1,jA⟩:=cY (m:=6) h (by decide) (by decide);have hw:w=0\/w=1\/w=2\/w=3\/w=4\/w=5:=by lia
 rcases hw with rfl|rfl|rfl|rfl|hw
 ·exact Ra h1 h8 e1 jA
 ·exact Rb h8 e1 jA
 ·exact MD h1 h8 e1 jA
 ·exact Rc h1 h8 e1 jA
 ·exact MC h8 e1 jA hw
theorem fR:∀ns:List Int,dP (ns.map U.int)=J ns
 | []=>rfl
 |n::ns=>by rw[å];show (dP (ns.map U.int)).map _=_;rw[fR ns];rfl
noncomputable def gR (a b:List Int):List Int:=b.map λi=>a.getD i.toNat 0
theorem ME {a b:List Int}(h:∀i∈b,0<=i/\i<a.length):iS (j8 [Z,J 0] (cx 0) bK (aI c7 (af 1) (af 0)) [J (au a),J (au b)]) (b.map U.int)=.ok ((gR a b).map U.int):=by
 have e:=eH (f:=j8 [Z,J 0] (cx 0) bK (aI c7 (af 1) (af 0)) [J (au a),J (au b)]) (c:=U.int) (g:=λi:Int=>U.int (a.getD i.toNat 0)) (xs:=b) λi hi=>by
  obtain⟨h0,h1⟩:=h i hi;obtain⟨n,rfl⟩:∃n:Nat,i=n:=⟨i.toNat,by lia⟩;have hn:n<a.length:=by lia
  have e1:kz (a.map U.int) (n:Int)=J (.int a[n]):=by rw[oq,ă,Ø hn];rfl
  have e2:a.getD (n:Int).toNat 0=a[n]:=by rw[ϑ,adO,Ø hn];rfl
  simp only[Pzz,bF,Nat.reduceAdd,Nat.reduceSub,au,e1,e2]
 rw[e];unfold gR;rw[ö];rfl
theorem oh {a b:List Int}(h:∀i∈b,0<=i/\i<a.length)(hl:b.length<=1000):cg [au a,au b]=.ok (au (gR a b)):=by
 have e:=ME h;have sz:((gR a b).map U.int).length<=Â:=by rw[Æ];unfold gR;rw[Æ];have:Â=16777216:=rfl;lia
 unfold cg kX;simp_all[au,Pzz,bF,Nat.reduceAdd,Nat.reduceSub]
theorem Rf {s:U}(h:kr s)(h1:m<=1000):∃(row:List Int) (s':U),fO [s,.int m]=.ok (.tup (row.map .int),s')/\row.length=m/\(∀c∈row,0<=c/\c<10)/\kr s':=by
 obtain⟨way,s1,e1,w0,w1,h1'⟩:=cY (m:=4) h (by decide) (by decide);have key:∀(js:List (Option Nat)) (ge:Ev->R (U×Ev)) (s1:U),kr s1->(∀u s,kr s->∃Bi r Bi' s',cx 0 u (fG js [J s,J (.int m),J (.int way)])=.ok Bi/\ge Bi=.ok (.int r,Bi')/\wb fN js Bi' [J s,J (.int m),J (.int way)]=[J s',J (.int m),J (.int way)]/\0<=r/\r<10/\kr s')->
   ∃(row:List Int) (s':U),rA fN js (cx 0) bK ge (aN 0 m) [J s1,J (.int m),J (.int way)]=.ok (row.map .int,[J s',J (.int m),J (.int way)])/\row.length=m/\(∀c∈row,0<=c/\c<10)/\kr s':=by
  intro js ge s1 jA Vm;obtain⟨ys,s',e,l,row,hr,hc,mK⟩:=ju (G:=fN) (js:=js) (sg:=cx 0) (ge:=ge) (λs:U=>[J s,J (.int m),J (.int way)]) m (λys s=>∃row:List Int,ys=row.map .int/\(∀c∈row,0<=c/\c<10)/\kr s)
   (λdone u s _ h00=>by
    obtain⟨row,hr,hc,hs⟩:=h00;obtain⟨Bi,r,Bi',s',a1,a2,a3,a4,a5,a6⟩:=Vm u s hs;refine⟨Bi,.int r,Bi',s',a1,a2,a3,row++[r],by rw[hr,Ą];rfl,λc VM=>?_,a6⟩;rcases ñ.mp VM with z|z
    ·exact hc c z
    ·rw[ð.mp z];exact⟨a4,a5⟩) (aN 0 m) [] s1 (by rw[bx];simp) ⟨[],rfl,(λc hc=>by cases hc),jA⟩
  rw[bx] at l;refine⟨row,s',by rw[e,<-hr];rfl,?_,hc,mK⟩;have:=congrArg ť hr;simp at this;lia
 by_cases c:way<2
 ·obtain⟨row,s',a1,a2,a3,a4⟩:=key [Z,J 0] (jr 2 1 aB (ae (gC (.int 2)) ao)) s1 h1' λu s hs=>by
   obtain⟨r,s',b1,b2,b3,b4⟩:=cY (m:=2) hs (by decide) (by decide);refine⟨[J u,J s],r,[J u,J s'],s',rfl,?_,rfl,b2,by lia,b4⟩;simp only[Pzz,bF,Nat.reduceAdd,Nat.reduceSub,b1]
  refine⟨row,s',?_,a2,a3,a4⟩;simp only[fO,jT,Pzz,bF,Nat.reduceAdd,Nat.reduceSub,e1,hG c,jL m (by lia),a1]
 ·have Z1:∃z:Int,kz [U.int 3,U.int 10] (way-2)=J (.int z)/\0<z/\z<=10:=by
   by_cases e:way=2
   ·subst e;exact⟨3,rfl,by decide,by decide⟩
   ·have e:way=3:=by (simp at *;lia)
    subst e;exact⟨10,rfl,by decide,by decide⟩
  obtain⟨z,hz,z0,z1⟩:=Z1;obtain⟨row,s',a1,a2,a3,a4⟩:=key [Z,J 0,J 2] (jr 2 1 aB (ae (aI c7 (fZ (ae (gC (.int 3)) (ae (gC (.int 10)) ao))) (aI tJ (af 2) (gC (.int 2)))) ao)) s1 h1' λu s hs=>by
   obtain⟨r,s',b1,b2,b3,b4⟩:=cY (m:=z) hs z0 (by lia);refine⟨[J u,J s,J (.int way)],r,[J u,J s',J (.int way)],s',rfl,?_,rfl,b2,by lia,b4⟩;simp only[Pzz,bF,Nat.reduceAdd,Nat.reduceSub,hz,b1]
  refine⟨row,s',?_,a2,a3,a4⟩;simp only[fO,jT,Pzz,bF,Nat.reduceAdd,Nat.reduceSub,e1,hJ c,jL m (by lia),a1]
noncomputable def p7 (x:Int):List Int->List (List Int)
 | []=>[[x]]
 |y::r=>(x::y::r)::(p7 x r).map (y::·)
def dG:List Int->List (List Int)
 | []=>[[]]
 |x::xs=>(dG xs).flatMap (p7 x)
theorem AV (x:Int):∀l,(p7 x l).length=l.length+1
 | []=>rfl
 |y::r=>by unfold p7;rw[Ò,Æ,AV x r,Ò]
theorem AW (x:Int):∀l r,(l++x::r)∈p7 x (l++r)
 | [],[]=>by simp[p7]
 | [],y::r=>by simp[p7]
 |y::l,r=>by
  show (y::(l++x::r))∈p7 x (y::(l++r));unfold p7;exact Ý _ (ο (AW x l r))
theorem qX:∀{xs r:List Int},r.Perm xs->r∈dG xs
 | [],r,h=>by simp_all[dG]
 |x::xs,r,h=>by
  obtain⟨l1,l2,e⟩:=List.append_of_mem (h.mem_iff.mpr (Ú (a:=x) (l:=xs)));subst e;have h2:(l1++l2).Perm xs:=(List.perm_cons x).mp (List.perm_middle.symm.trans h);unfold dG;exact Ϧ.mpr ⟨l1++l2,qX h2,AW x l1 l2⟩
theorem qY:∀(xs:List Int),(∀r∈dG xs,r.length=xs.length)/\(dG xs).length=Q_ xs.length
 | []=>by simp[dG,Q_]
 |x::xs=>by
  obtain⟨h1,h2⟩:=qY xs;have ins:∀(l r:List Int),r∈p7 x l->r.length=l.length+1:=by
   intro l
   induction l with
   |nil=>intro r h;simp[p7] at h;rw[h];rfl
   |cons y l ih=>
    intro r h;unfold p7 at h;rcases à.mp h with rfl|h
    ·rfl
    ·obtain⟨q,hq,rfl⟩:=á.mp h;rw[Ò,ih q hq,Ò]
  refine⟨λr h=>?_,?_⟩
  ·unfold dG at h;obtain⟨q,hq,h⟩:=Ϧ.mp h;rw[ins q r h,h1 q hq,Ò]
  ·unfold dG;rw[List.length_flatMap];have e:(dG xs).map (λa=>(p7 x a).length)=(dG xs).map λ_=>xs.length+1:=Ο λq hq=>by rw[AV,h1 q hq]
   rw[e,List.map_const',List.sum_replicate_nat,h2,Ò];rfl
theorem AX {α:Type}[DecidableEq α]:∀{l m:List α},l.Nodup->(∀x∈l,x∈m)->l.length<=m.length
 | [],m,_,_=>Ħ _
 |x::l,m,h,s=>by
  obtain⟨h1,h2⟩:=Ť.mp h;have hx:=s x Ú;have:=AX (m:=m.erase x) h2 λy hy=>(List.mem_erase_of_ne λe=>h1 (by rw[<-e];exact hy)).mpr (s y (Ý _ hy));rw[List.length_erase_of_mem hx] at this;have:0<m.length:=List.length_pos_of_mem hx;rw[Ò];lia
theorem nv:∀(l bH:List (List Int)),bH.Nodup->(l.foldl uy bH).Nodup
 | [],bH,h=>h
 |x::l,bH,h=>by
  refine nv l _ ?_;unfold uy;split
  ·exact h
  ·rename_i c;rw[Ϥ];refine⟨h,by simp,λa ha b hb e=>c ?_⟩;rw[ð.mp hb] at e;rw[<-e];exact ha
theorem AY:∀(l bH:List (List Int)) (x:List Int),(x∈bH\/x∈l)->x∈l.foldl uy bH
 | [],bH,x,h=>h.elim id λz=>by cases z
 |y::l,bH,x,h=>by
  refine AY l _ x ?_;unfold uy;grind
def F0 (base:List (List Int))(m:Nat):Prop:=base.length<=2/\1<=m/\m<=8/\∀b∈base,b.length=m
def Rg (base rows:List (List Int)):Prop:=rows≠[]/\∀r∈rows,∃b∈base,r.Perm b
theorem Ux {n:Nat}(h:n<=6):Q_ n<=720:=by
 have:n=0\/n=1\/n=2\/n=3\/n=4\/n=5\/n=6:=by lia
 rcases this with rfl|rfl|rfl|rfl|rfl|rfl|rfl<;>decide
theorem JR (hb:F0 base m)(h6:m<=6)(h:∀r∈rows,∃b∈base,r.Perm b):(eE rows).length<=1440:=by
 have sub:∀x∈eE rows,x∈base.flatMap dG:=λx hx=>by
  rcases oH _ _ _ hx with z|z
  ·cases z
  ·obtain⟨b,h1,h2⟩:=h x z;exact Ϧ.mpr ⟨b,h1,qX h2⟩
 refine ä (AX (nv rows [] List.nodup_nil) sub) ?_;rw[List.length_flatMap];have lb:∀l:List (List Int),(∀b∈l,b.length=m)->(l.map λa=>(dG a).length).sum<=l.length*720:=by
  intro l
  induction l with
  |nil=>intro _;simp
  |cons b l ih=>
   intro h;rw[å,Υ,Ò];have h1:=ih λc hc=>h c (Ý _ hc);have h2:(dG b).length<=720:=by rw[(qY b).2,h b Ú];exact Ux h6
   lia
 have:=lb base hb.2.2.2;have:=hb.1;lia
theorem sC:∀(l bH:List (List Int)),(l.foldl uy bH).length<=bH.length+l.length
 | [],bH=>by simp
 |x::l,bH=>by
  refine ä (sC l _) ?_;unfold uy;split<;>simp<;>lia
theorem qZ (few:(eE rows).length<=1440)(ne:∀r∈rows,r≠[])(hn:rows≠[]):∃rows',eF [.lst (rows.map au)]=.ok (.lst (rows'.map au))/\rows'≠[]/\rows'.length<=1440/\(∀x,x∈rows'↔x∈rows)/\rows'.Nodup/\rows'.length<=rows.length/\QG rows':=by
 have e1:wV (rows.map au)=J rows:=by
  clear few hn
  induction rows with
  |nil=>rfl
  |cons r rows ih=>
   rw[å];unfold wV;have e:Jh (au r)=J r:=by
    unfold Jh au;dsimp only;rw[fR];cases r with
    |nil=>exact absurd rfl (ne [] Ú)
    |cons=>rfl
   rw[e,ih λq hq=>ne q (Ý _ hq)]
 have mem:∀x,x∈oF (eE rows)↔x∈rows:=λx=>by
  rw[(cS _).mem_iff];constructor
  ·intro hx;rcases oH _ _ _ hx with z|z
   ·cases z
   ·exact z
  ·exact λhx=>AY _ _ _ (.inr hx)
 refine⟨oF (eE rows),?_,λe=>?_,by rw[(cS _).length_eq];exact few,mem,(cS _).nodup_iff.mpr (nv rows [] List.nodup_nil),by rw[(cS _).length_eq];have:=sC rows [];simpa [eE] using this,kQ _⟩
 ·unfold eF;dsimp only;rw[e1];dsimp only;rw[hV (by lia)]
 grind[adS]
noncomputable def cap (k:Int):Nat:=if k<2 then 1152 else if k<3 then 48 else if k<4 then 2 else 0
theorem Rh (k:Int):cap k<=1152:=by unfold cap;split<;>(try split)<;>(try split)<;>lia
theorem JS {k:Int}(h:¬k<2):24*cap k<=cap (k-1):=by
 grind[cap]
def Uy (base:List (List Int))(m:Nat)(k:Int)(rows:List (List Int)):Prop:=Rg base rows/\rows.length<=1440/\(7<=m->rows.length<=cap k)
theorem lh (hb:F0 base m)(h:Rg base rows):∀r∈rows,r.length=m:=λr hr=>by
 obtain⟨b,h1,h2⟩:=h.2 r hr;rw[h2.length_eq,hb.2.2.2 b h1]
theorem ny {k:Int}(hb:F0 base m)(h:Rg base rows)(hc:7<=m->rows.length<=cap k):∃rows',eF [.lst (rows.map au)]=.ok (.lst (rows'.map au))/\Uy base m k rows'/\∀x,x∈rows'↔x∈rows:=by
 have few:(eE rows).length<=1440:=by
  by_cases h6:m<=6
  ·exact JR hb h6 h.2
  ·have h1:=hc (by lia);have h2:=sC rows [];have h3:=Rh k;have h4:(eE rows).length<=rows.length:=by simpa [eE] using h2
   (simp at *;lia)
 obtain⟨rows',a1,a2,a3,a4,_,a5,_⟩:=qZ few (λr hr e=>by
  have h3:=lh hb h r hr;have h4:=hb.2.1;rw[e] at h3;rw[<-h3] at h4;exact absurd h4 (by decide)) h.1
 exact⟨rows',a1,⟨⟨a2,λr hr=>h.2 r ((a4 r).mp hr)⟩,a3,λh7=>ä a5 (hc h7)⟩,a4⟩
open Hc.Ts
def MF (m:Nat)(l:List Int):Prop:=l≠[]/\l.length<=8/\(∀i∈l,0<=i/\i<m)/\l.Nodup
def F1 (l:List Int):Prop:=∀c∈l,0<=c/\c<=9
def SK (l:List (List Int)):Prop:=l.Pairwise λx y=>e_ x y=M
def cn (m:Nat):Nat->U->Prop
 |0,_=>False
 |d+1,u=>(∃cs,u=.tup [.str "end",au cs]/\MF m cs)\/u=.tup [.str "again"]\/(∃p q,u=.tup [.str "lay",au p,q]/\iI m p/\cn m d q)\/(∃(ps:List (List Int)) (q:U),u=.tup [.str "mix",.tup (ps.map au),q]/\(ps≠[]/\ps.length<=24/\∀p∈ps,iI m p)/\cn m d q)\/∃(pl:List Int) (ws:List (List Int×U)),u=.tup [.str "look",au pl,.tup (ws.map kq)]/\MF m pl/\ws≠[]/\ws.length<=5/\SK (ws.map (·.1))/\∀w∈ws,(w.1.length=pl.length/\F1 w.1)/\cn m d w.2
abbrev PW (m d n:Nat)(w:List Int×U):Prop:=(w.1.length=n/\F1 w.1)/\cn m d w.2
def uY (h:MF m cs):cn m (d+1) (.tup [.str "end",au cs]):=by unfold cn;exact .inl ⟨cs,rfl,h⟩
def JT:cn m (d+1) (.tup [.str "again"]):=by unfold cn;exact .inr (.inl rfl)
def Ri {p:List Int}(hp:iI m p)(h:cn m d q):cn m (d+1) (.tup [.str "lay",au p,q]):=by unfold cn;exact .inr (.inr (.inl ⟨p,q,rfl,hp,h⟩))
def Rj {ps:List (List Int)}(h1:ps≠[])(h2:ps.length<=24)(h3:∀p∈ps,iI m p)(h:cn m d q):cn m (d+1) (.tup [.str "mix",.tup (ps.map au),q]):=by unfold cn;exact .inr (.inr (.inr (.inl ⟨ps,q,rfl,⟨h1,h2,h3⟩,h⟩)))
def yy {pl:List Int}{ws:List (List Int×U)}(hp:MF m pl)(h1:ws≠[])(h2:ws.length<=5)(h3:SK (ws.map (·.1)))(h:∀w∈ws,PW m d pl.length w):cn m (d+1) (.tup [.str "look",au pl,.tup (ws.map kq)]):=by unfold cn;exact .inr (.inr (.inr (.inr ⟨pl,ws,rfl,hp,h1,h2,h3,h⟩)))
def uZ (h:iI m os):∀i∈os,0<=i/\i<m:=λi hi=>BW.mp (h.mem_iff.mp hi)
def i4 (h:iI m os):os.length=m:=by rw[h.length_eq,fI]
def Rk (m:Nat):(aY m).Nodup:=by
 unfold aY;exact List.Pairwise.map _ (λa b h e=>h (Int.ofNat.inj e)) ς
theorem Ef (h:iI m os)(h1:1<=m)(h8:m<=8)(hk:1<=k):MF m (os.take k):=
 ⟨λz=>by have:=congrArg ť z;rw[ÿ,i4 h] at this;(simp at *;lia),by rw[ÿ,i4 h];lia,
  λi hi=>uZ h i (Ļ hi),(List.take_sublist k os).nodup (h.nodup_iff.mpr (Rk m))⟩
theorem yz {s:U}(h:kr s)(h1:1<=m)(h8:m<=8):∃cs s',fP [s,.int m]=.ok (.tup [.str "end",au cs],s')/\MF m cs/\kr s':=by
 obtain⟨os,s1,e1,o1,h1'⟩:=k_ (m:=m) h (by lia);obtain⟨r,s2,e2,r0,r1,h2⟩:=cY (m:=2) h1' (by decide) (by decide);have hz:∃z:Int,kz [U.int 2,U.int m] r=J (.int z)/\0<z/\z<=8:=by
  have:r=0\/r=1:=by lia
  rcases this with rfl|rfl
  ·exact⟨2,rfl,by decide,by decide⟩
  ·exact⟨m,rfl,by lia,by lia⟩
 obtain⟨z,hz,z0,z1⟩:=hz;obtain⟨t,s3,e3,t0,t1,h3⟩:=cY (m:=z) h2 z0 (by lia);obtain⟨k,hk⟩:∃k:Nat,1+t=k:=⟨(1+t).toNat,by lia⟩;refine⟨os.take k,s3,?_,Ef o1 h1 h8 (by lia),h3⟩;simp only[fP,nq,Pzz,bF,Nat.reduceAdd,Nat.reduceSub,e1,e2,hz,e3,hk,gf];unfold au;rw[τ]
def JU {a:List Int}(h:iI a.length os):(gR a os).Perm a:=by
 unfold gR;refine (h.map _).trans ?_;have e:(aY a.length).map (λi=>a.getD i.toNat 0)=a:=by
  unfold aY;rw[ö];refine List.ext_getElem (by simp) λi h1 h2=>?_;rw[List.getElem_map,List.getElem_range];show a.getD ((i:Int)).toNat 0=_;rw[ϑ,adO,Ø h2];rfl
 rw[e]
def JV (CH:∀u,cx 0 u (fG js B)=.ok [J u,J (au os)])(h:∀r∈rows,∀i∈os,0<=i/\i<r.length)(hl:os.length<=1000) :
  iS (j8 js (cx 0) bK (dz 2 cg (ae (af 0) (ae (af 1) ao))) B) (rows.map au)=.ok ((rows.map λr=>gR r os).map au):=by
 rw[ö];refine eH λr hr=>?_;unfold j8;rw[CH];simp only[Pzz,bF,Nat.reduceAdd,Nat.reduceSub,oh (h r hr) hl];rfl
theorem u3 (hb:F0 base m)(h:Rg base rows):∃r,kz (rows.map au) 0=J (au r)/\r.length=m:=by
 obtain⟨r,rs,rfl⟩:=ϛ h.1;exact⟨r,by rw[show (0:Int)=((0:Nat):Int) from rfl,oq];rfl,lh hb h r Ú⟩
def sD (n:Nat):kH 9 (bU n)=bO n:=rfl
def yA (n:Nat):kH 11 (eV n)=iY n:=rfl
def Cr (base:List (List Int))(m n:Nat)(k:Int)(d:Nat):Prop:=∀rows s b,Uy base m k rows->kr s->∃u s',bO n [s,.lst (rows.map au),.int k,.bl b]=.ok (u,s')/\cn m d u/\kr s'
def Uz (base:List (List Int))(m n:Nat)(k:Int)(d:Nat):Prop:=∀rows s b,Uy base m k rows->kr s->∃u s',iY n [s,.lst (rows.map au),.int k,.bl b]=.ok (u,s')/\cn m d u/\kr s'
def fD {r:List Int}:au r=.tup (r.map U.int):=rfl
theorem Eg (hb:F0 base m)(h:Rg base rows)(ho:iI m os):∀x∈rows.map (λr=>gR r os),∃b∈base,x.Perm b:=λx hx=>by
 obtain⟨r,hr,rfl⟩:=á.mp hx;obtain⟨b,h1,h2⟩:=h.2 r hr;have l:=lh hb h r hr;subst l;exact⟨b,h1,(JU ho).trans h2⟩
theorem JW (hb:F0 base m){n:Nat}{k:Int}(hk:k<2):Cr base m (n+1) k 1:=λrows s b hr hs=>by
 obtain⟨r,e0,l0⟩:=u3 hb hr.1;obtain⟨w,s1,e1,w0,w1,jA⟩:=cY (m:=12) hs (by decide) (by decide);obtain⟨cs,s2,e2,hcs,iK⟩:=yz (m:=m) jA hb.2.1 (by have:=hb.2.2.1;lia);refine⟨_,s2,?_,uY hcs,iK⟩;simp only[bO,bU,Pzz,bF,Nat.reduceAdd,Nat.reduceSub,e0,fD,Æ,l0,e1,hG hk,e2]
theorem JX (hb:F0 base m){n:Nat}{k w:Int}(hp:Cr base m n (k-1) d){s:U}{b:Bool}(hr:Uy base m k rows)(hk:¬k<2)(e1:aB [s,.int 12]=.ok (.int w,s1))(jA:kr s1)(w0:¬w=0)(wb:w=1->b=Y)(w4:w<4) :
  ∃u s',bO (n+1) [s,.lst (rows.map au),.int k,.bl b]=.ok (u,s')/\cn m (d+1) u/\kr s':=by
 obtain⟨r,e0,l0⟩:=u3 hb hr.1;have m5:=hb.2.2.1;obtain⟨os,s2,e2,ho,iK⟩:=k_ (m:=m) jA (by lia);have e3:=JV (js:=[Z,J 6]) (B:=[J s2,J (.lst (rows.map au)),J (.int k),J (.bl b),J (.int m),J (.int w),J (au os),Z,Z]) (rows:=rows) (os:=os) (λu=>rfl)
  (λr lD=>by rw[lh hb hr.1 r lD];exact uZ ho) (by rw[i4 ho];lia)
 obtain⟨rows',e4,hr',_⟩:=ny hb (rows:=rows.map λr=>gR r os) ⟨λz=>hr.1.1 (ae9.mp z),Eg hb hr.1 ho⟩ (k:=k-1) (λh7=>by have:=hr.2.2 h7;have:=JS hk;rw[Æ];lia);obtain⟨u,s3,e5,hu,hs3⟩:=hp rows' s2 b hr' iK;refine⟨.tup [.str "lay",au os,u],s3,?_,Ri ho hu,hs3⟩;have b1:(w==0)=Y:=beq_eq_false_iff_ne.mpr w0;rw[fD] at e3 |-;rw[bO,bU,sD,yA];have b3:∀B:Ev,(if (w==1)=M then (R.ok (b,B):R (Bool×Ev)) else .ok (Y,B))=.ok (Y,B):=λB=>by
  by_cases c:w=1
  ·rw[wb c];exact ite_self _
  ·exact if_neg (by simpa using c)
 simp only[Pzz,bF,Nat.reduceAdd,Nat.reduceSub,e0,fD,Æ,l0,e1,hJ hk,bu,b1,b3,id,hG w4,e2,e3,e4,e5]
theorem JY (hb:F0 base m){n:Nat}{k w:Int}(hp:Cr base m n (k-1) d){s:U}{b:Bool}(hr:Uy base m k rows)(hk:¬k<2)(e1:aB [s,.int 12]=.ok (.int w,s1))(jA:kr s1)(w4:¬w<4)(w8:w<8) :
  ∃u s',bO (n+1) [s,.lst (rows.map au),.int k,.bl b]=.ok (u,s')/\cn m (d+1) u/\kr s':=by
 obtain⟨r,e0,l0⟩:=u3 hb hr.1;have m5:=hb.2.2.1;have sz:Â=16777216:=rfl;obtain⟨oss,s2,e2,ho,n1,n24,iK⟩:=Cq (m:=m) jA hb.2.1 (by lia);have KP:=hr.2.1;obtain⟨B',e3,A,o,rfl,lA,hA⟩:=gW (sg:=cx 6) (s:=j7 (gM "list" 8 fU (ae (dH (d6 (af 1)) [Z,J 6] (cx 0) bK (dz 2 cg (ae (af 0) (ae (af 1) ao)))) ao)))
  (λi B=>∃(A:List (List Int)) (o:Option U),B=[J s2,J (.lst (rows.map au)),J (.int k),J (.bl b),J (.int m),J (.int w),o,J (.tup (oss.map tO)),J (.lst (A.map au))]/\A.length=i*rows.length/\∀r∈A,∃b∈base,r.Perm b) (us:=oss.map tO)
  (λi u B hu h00=>by
   obtain⟨A,o,hρ,lA,hA⟩:=h00;subst hρ;rw[ă] at hu;obtain⟨os,Ve,rfl⟩:=Ζ.mp hu;have hm:=į Ve;have hi:i<oss.length:=(ċ.mp Ve).1;have oo:=ho os hm;have e3:=JV (js:=[Z,J 6]) (B:=[J s2,J (.lst (rows.map au)),J (.int k),J (.bl b),J (.int m),J (.int w),J (tO os),J (.tup (oss.map tO)),J (.lst (A.map au))]) (rows:=rows) (os:=os) (λu=>rfl)
    (λr lD=>by rw[lh hb hr.1 r lD];exact uZ oo) (by rw[i4 oo];lia)
   have le:i*rows.length<=24*1440:=Nat.mul_le_mul (by lia) KP;have lx:(A.map au).length+((rows.map λr=>gR r os).map au).length<=Â:=by simp only[Æ];(simp at *;lia)
   refine⟨_,_,rfl,.inl (by
    simp only[Ŷ,ŵ,Pzz,bF,Nat.reduceAdd,Nat.reduceSub,e3,JN,lx];rfl),A++rows.map (λr=>gR r os),J (tO os),?_,?_,?_⟩
   ·rw[Ą]
   ·rw[Þ,Æ,lA,Nat.add_mul,Nat.one_mul]
   ·intro x hx;rcases ñ.mp hx with z|z
    ·exact hA x z
    ·exact Eg hb hr.1 oo x z) (B:=[J s2,J (.lst (rows.map au)),J (.int k),J (.bl b),J (.int m),J (.int w),Z,J (.tup (oss.map tO)),J (.lst [])]) ⟨[],Z,rfl,by simp,λr h=>by cases h⟩
 rw[Æ] at lA;have Z2:A≠[]:=λz=>by
  rw[z] at lA;have h1:0<rows.length:=Ÿ.mpr hr.1.1;have:=Nat.mul_pos (show 0<oss.length by lia) h1;rw[<-lA] at this;exact absurd this (by decide)
 obtain⟨rows',e4,hr',_⟩:=ny hb (rows:=A) ⟨Z2,hA⟩ (k:=k-1) (λh7=>by
  have h3:=Nat.mul_le_mul n24 (hr.2.2 h7);have:=JS hk;lia)
 obtain⟨u,s3,e5,hu,hs3⟩:=hp rows' s2 b hr' iK;refine⟨.tup [.str "mix",.tup (oss.map tO),u],s3,?_,Rj (λz=>by rw[z] at n1;exact absurd n1 (by decide)) n24 ho hu,hs3⟩;have b1:(w==0)=Y:=beq_eq_false_iff_ne.mpr (by lia);have b3:(w==1)=Y:=beq_eq_false_iff_ne.mpr (by (simp at *;lia));rw[bO,bU,sD,yA];simp only[Pzz,bF,Nat.reduceAdd,Nat.reduceSub,e0,fD,Æ,l0,e1,hJ hk,bu,b1,b3,id,hJ w4,hG w8,e2,e3,e4,e5]
theorem F2 (hb:F0 base m){n:Nat}{k:Int}(hp:Cr base m n (k-1) d)(hl:Uz base m n k (d+1))(hk:¬k<2):Cr base m (n+1) k (d+1):=λrows s b hr hs=>by
 obtain⟨r,e0,l0⟩:=u3 hb hr.1;have m5:=hb.2.2.1;obtain⟨w,s1,e1,w0,w1,jA⟩:=cY (m:=12) hs (by decide) (by decide);by_cases c0:w=0
 ·obtain⟨cs,s2,e2,hcs,iK⟩:=yz (m:=m) jA hb.2.1 (by lia);refine⟨_,s2,?_,uY hcs,iK⟩;subst c0;simp only[bO,bU,Pzz,bF,Nat.reduceAdd,Nat.reduceSub,e0,fD,Æ,l0,e1,hJ hk,bu,Int.reduceBEq,id,e2]
 by_cases c1:w=1/\b=M
 ·obtain⟨rfl,rfl⟩:=c1;refine⟨.tup [.str "again"],s1,?_,JT,jA⟩;simp only[bO,bU,Pzz,bF,Nat.reduceAdd,Nat.reduceSub,e0,fD,Æ,l0,e1,hJ hk,bu,Int.reduceBEq,id]
 by_cases c4:w<4
 ·exact JX hb hp hr hk e1 jA c0 (λz=>by lia) c4
 by_cases c8:w<8
 ·exact JY hb hp hr hk e1 jA c4 c8
 obtain⟨u,s2,e5,hu,iK⟩:=hl rows s1 b hr jA;refine⟨u,s2,?_,hu,iK⟩;have b1:(w==0)=Y:=beq_eq_false_iff_ne.mpr c0;have b3:(w==1)=Y:=beq_eq_false_iff_ne.mpr (by lia);rw[bO,bU,sD,yA];simp only[Pzz,bF,Nat.reduceAdd,Nat.reduceSub,e0,fD,Æ,l0,e1,hJ hk,bu,b1,b3,id,hJ c4,hJ c8,e5]
theorem xj {α:Type}{f:U->R (Option U)}{c:α->U}{p:α->Bool}:∀{xs:List α},(∀x∈xs,f (c x)=.ok (if p x=M then J (c x) else Z))->iS f (xs.map c)=.ok ((xs.filter p).map c)
 | [],_=>rfl
 |x::xs,h=>by
  rw[å];unfold iS;rw[h x Ú];show (iS f (xs.map c)).bind _=_;rw[xj λy hy=>h y (Ý _ hy)];show R.ok _=_;rw[List.filter_cons];cases p x<;>rfl
def Yr (p:U->U->R U)(y:U×Ev)(o:Option (Option U)):R (U×Ev):=match o with
 |some (J u)=>(p u y.1).bind λz=>.ok (z,y.2)
 |_=>.stk
def UA {g:Ev->R (U×Ev)}:Mg j p g B=if Du B[j]? = M then (g B).bind λy=>Yr p y y.2[j]? else .stk:=nr rfl
def UB {y:U×Ev}:Yr p y (J (J u))=(p u y.1).bind λz=>.ok (z,y.2):=nr rfl
def p8 {k:Bool}:HB [.bl k]=.ok (.int (if k then 1 else 0)):=nr rfl
def JZ:lQ (.lst us) [u]=if us.length<Â then .ok (.non,.lst (us++[u])) else .stk:=nr rfl
def UC {v pl:List Int}(CH:∀u,cx 0 u (fG js B)=.ok [J u,J (au v),J (au pl)])(h:∀r∈rows,∀i∈pl,0<=i/\i<r.length)(hl:pl.length<=1000) :
  iS (j8 js (cx 0) (gB (aI (lP id) (dz 2 cg (ae (af 0) (ae (af 2) ao))) (af 1))) (af 0) B) (rows.map au)=.ok ((rows.filter λr=>decide (gR r pl=v)).map au):=by
 refine xj λr hr=>?_;unfold j8;rw[CH];have e:n9 (au (gR r pl)) (au v)=.ok (decide (gR r pl=v)):=IY _ _;by_cases c:gR r pl=v
 ·rw[hG c] at e |-;simp only[Pzz,bF,Nat.reduceAdd,Nat.reduceSub,oh (h r hr) hl,e,id]
 ·rw[hJ c] at e |-;simp only[Pzz,bF,Nat.reduceAdd,Nat.reduceSub,oh (h r hr) hl,e,id]
theorem J0:∀{d:Nat} {u:U},cn m d u->∃us,u=.tup us
 |0,_,h=>by cases h
 |d+1,u,h=>by
  unfold cn at h;rcases h with⟨_,rfl,_⟩|rfl|⟨_,_,rfl,_⟩|⟨_,_,rfl,_⟩|⟨_,_,rfl,_⟩<;>exact⟨_,rfl⟩
theorem jv:∀{ws:List (List Int×U)},(∀w∈ws,∃us,w.2=.tup us)->nh (ws.map kq)=J ws
 | [],_=>rfl
 |w::ws,h=>by
  obtain⟨ks,u⟩:=w;obtain⟨us,hu⟩:=h _ Ú;dsimp only at hu;subst hu;rw[å];have e:D9 (kq (ks,.tup us))=J (ks,.tup us):=by
   show (dP (ks.map U.int)).map _=_;rw[fR];rfl
  unfold nh;rw[e,jv λw hw=>h w (Ý _ hw)]
theorem AZ:∀{ps:List (List Int×U)} {k:List Int},k∈ps.map (·.1)->∃p∈ps,j9 ps k=p.2
 |p::ps,k,h=>by
  unfold j9;rw[Ğ];by_cases c:k=p.1
  ·rw[c,beq_self_eq_true];exact⟨p,Ú,rfl⟩
  ·rw[beq_eq_false_iff_ne.mpr c];rw[å] at h;obtain⟨q,h1,h2⟩:=AZ ((à.mp h).resolve_left c);exact⟨q,Ý _ h1,h2⟩
theorem Cs {l:List (List Int)}(h:QG l)(nd:l.Nodup):SK l:=(List.pairwise_and_iff.mpr ⟨h,nd⟩).imp λ{x y} ⟨a,b⟩=>by
 cases c:e_ x y with
 |true=>rfl
 |false=>exact (b (jO x y c a)).elim
theorem J1 {n:Nat}{ws:List (List Int×U)}(h:∀w∈ws,PW m d n w)(nd:(ws.map (·.1)).Nodup)(hl:ws.length<=1000):∃ws':List (List Int×U),uB [.lst (ws.map kq)]=.ok (.lst (ws'.map kq))/\ws'.length=ws.length/\SK (ws'.map (·.1))/\∀w∈ws',PW m d n w:=by
 refine⟨uA ws,?_,?_,?_,λw hw=>?_⟩
 ·unfold uB;dsimp only;rw[jv λw hw=>J0 (h w hw).2];dsimp only;rw[hV ⟨by lia,nd⟩]
 ·unfold uA;rw[Æ,(cS _).length_eq,Æ]
 ·have e:(uA ws).map (·.1)=oF (ws.map (·.1)):=by
   unfold uA;rw[ö];exact List.map_id _
  rw[e];exact Cs (kQ _) ((cS _).nodup_iff.mpr nd)
 ·obtain⟨k,hk,rfl⟩:=á.mp hw;have hk:=(cS _).mem_iff.mp hk;obtain⟨p,h1,h2⟩:=AZ hk;obtain⟨p',h3,h4⟩:=á.mp hk;refine⟨?_,?_⟩
  ·show k.length=n/\F1 k;rw[<-h4];exact (h p' h3).1
  ·show cn m d (j9 ws k);rw[h2];exact (h p h1).2
theorem MG {r pl:List Int}(h:F1 r)(hi:∀i∈pl,0<=i/\i<r.length):F1 (gR r pl):=λc hc=>by
 unfold gR at hc;obtain⟨i,h1,rfl⟩:=á.mp hc;have:=hi i h1;have l:i.toNat<r.length:=by simp[*]
 rw[adO,Ø l];exact h _ (ą l)
def Eh (r:List Int):iN (au r)=J (.tup (r.map .int)):=by unfold au iN;rw[pS];rfl
theorem A4 {α:Type}{f:α->U}{g:α->D}(h:∀x,iN (f x)=J (g x)):∀xs:List α,ij (xs.map f)=J (xs.map g)
 | []=>by rfl
 |x::xs=>by rw[å];unfold ij;rw[h,A4 h xs];rfl
theorem MJ (r:List Int):du (.tup (r.map .int))<=1:=by unfold du;rw[mX];lia
def MK (a b:List Int):i7 (.tup (a.map .int)) (.tup (b.map .int))=decide (a=b):=by unfold i7;exact lT a b
theorem Ct (c:List Int)(rows:List (List Int)):KZ not (au c) (.lst (rows.map au))=.ok (.bl (!decide (c∈rows))):=by
 unfold KZ B9;rw[Eh];show (match J (D.tup (c.map .int)),ij (rows.map au) with|some dx,J ds=>_|_,_=>_)=_;rw[A4 Eh];dsimp only;rw[hV (by rw[υ];exact ì.mpr λr _=>hG (by have:=MJ r;show du (.tup (r.map .int))<=30;lia))];congr 3;rw[List.any_map];have:((λd=>i7 d (.tup (c.map .int)))∘λr:List Int=>D.tup (r.map .int))=λr=>decide (r=c):=funext λr=>MK r c;rw[this];by_cases h:c∈rows
 ·rw[hG h];exact ϥ.mpr ⟨c,h,hG rfl⟩
 ·rw[hJ h];exact List.any_eq_false.mpr λr hr e=>h (by rw[<-of_decide_eq_true e];exact hr)
theorem F3 (hb:F0 base m)(iQ:∀b∈base,F1 b){n:Nat}{k:Int}(Z3:¬k<2)(hp:Cr base m n (k-1) d):Uz base m (n+1) k (d+1):=λrows s b hr hs=>by
 obtain⟨r,e0,l0⟩:=u3 hb hr.1;have m5:=hb.2.2.1;have m1:=hb.2.1;have sz:Â=16777216:=rfl;obtain⟨os,s1,e1,ho,jA⟩:=k_ (m:=m) hs (by lia);obtain⟨t,s2,e2,t0,t1,iK⟩:=cY (m:=2) jA (by decide) (by decide);obtain⟨kk,hk,k1,km⟩:∃kk:Nat,1+t*(if decide (1<(m:Int))=M then 1 else 0)=(kk:Int)/\1<=kk/\kk<=m:=by
  have:t=0\/t=1:=by lia
  by_cases c:1<(m:Int)
  ·rw[hG c,hV rfl];rcases this with rfl|rfl
   ·exact⟨1,rfl,by lia,by lia⟩
   ·exact⟨2,rfl,by lia,by lia⟩
  ·rw[hJ c,hU (by decide)];exact⟨1,by lia,by lia,by omega⟩
 have c1:n8 t (if decide (1<(m:Int))=M then 1 else 0)=M:=pR t0 (by lia);obtain⟨pl,jh⟩:∃pl,pl=os.take kk:=⟨_,rfl⟩;have VX:(os.map U.int).take kk=pl.map U.int:=by rw[jh,τ]
 have Z4:pl.length=kk:=by rw[jh,ÿ,i4 ho];lia
 have XX:∀i∈pl,0<=i/\i<(m:Int):=λi hi=>uZ ho i (Ļ (jh▸hi));have e3:=JV (js:=[Z,J 5]) (B:=[J s2,J (.lst (rows.map au)),J (.int k),J (.bl b),J (.int m),J (au pl),Z,Z,Z,Z,Z]) (rows:=rows) (os:=pl) (λu=>rfl)
  (λr lD=>by rw[lh hb hr.1 r lD];exact XX) (by lia)
 have XY:MF m pl:=jh▸Ef ho m1 m5 k1;have KP:=hr.2.1;obtain⟨seen,e4,ns,_,ms,nds,_,ups⟩:=qZ (rows:=rows.map λr=>gR r pl) (by
   have:=sC (rows.map λr=>gR r pl) [];rw[Æ] at this;have e:(([]:List (List Int)).length)=0:=rfl;unfold eE;(simp at *;lia)) (λx hx e=>by
   obtain⟨r,_,rfl⟩:=á.mp hx;have:=congrArg ť e;unfold gR at this;grind) (λz=>hr.1.1 (ae9.mp z))
 rw[iY,eV,sD];by_cases c4:4<seen.length
 ·obtain⟨cs,s3,e5,hcs,hs3⟩:=yz (m:=m) iK m1 (by lia);refine⟨_,s3,?_,uY hcs,hs3⟩;have d4:decide ((4:Int)<(seen.length:Nat))=M:=hG (by lia);rw[fD] at e3;simp only[Pzz,bF,Nat.reduceAdd,Nat.reduceSub,e0,fD,Æ,l0,e1,e2,pQ,p8,c1,hk,gf,VX,e3,e4,d4,e5]
 ·have l2:(2:Nat)<=Â:=by decide
  obtain⟨B',e5,s3,ws,o8,o9,rfl,hw,hws,hs3⟩:=gW (sg:=cx 8) (s:=aG (bL 9 (dH (d6 (af 1)) [Z,J 8,J 5] (cx 0) (gB (aI (lP id) (dz 2 cg (ae (af 0) (ae (af 2) ao))) (af 1))) (af 0))) (j7 (gM "list" 7 lQ (ae (eD (ae (af 8) (ae (jr 4 0 (bO n) (ae (af 9) (ae (aI tJ (af 2) (gC (.int 1))) (ae (af 3) ao)))) ao))) ao))))
   (λi B=>∃(s:U) (ws:List (List Int×U)) (o8 o9:Option U),B=[J s,J (.lst (rows.map au)),J (.int k),J (.bl b),J (.int m),J (au pl),J (.lst (seen.map au)),J (.lst (ws.map kq)),o8,o9,Z]/\ws.map (·.1)=seen.take i/\(∀w∈ws,PW m d pl.length w)/\kr s) (us:=seen.map au)
   (λi u B hu h00=>by
    obtain⟨s,ws,o8,o9,hρ,hw,hws,hs⟩:=h00;subst hρ;rw[ă] at hu;obtain⟨v,hv,rfl⟩:=Ζ.mp hu;have f1:=UC (js:=[Z,J 8,J 5]) (B:=[J s,J (.lst (rows.map au)),J (.int k),J (.bl b),J (.int m),J (au pl),J (.lst (seen.map au)),J (.lst (ws.map kq)),J (au v),o9,Z]) (rows:=rows) (v:=v) (pl:=pl) (λu=>rfl)
     (λr lD=>by rw[lh hb hr.1 r lD];exact XX) (by lia)
    obtain⟨r1,rO,hv1⟩:=á.mp ((ms v).mp (į hv));obtain⟨u,s',f2,hu,mK⟩:=hp (rows.filter λr=>decide (gR r pl=v)) s b ⟨⟨List.ne_nil_of_mem (ϧ.mpr ⟨rO,hG hv1⟩),λr lD=>hr.1.2 r (ϧ.mp lD).1⟩,ä (List.length_filter_le _ _) KP,λh7=>ä (List.length_filter_le _ _) (by have:=hr.2.2 h7;have:=JS Z3;lia)⟩ hs;have lw:(ws.map kq).length<Â:=by
     have:=congrArg ť hw;grind
    refine⟨_,_,rfl,.inl (by
     simp only[Ŷ,ŵ,Pzz,bF,Nat.reduceAdd,Nat.reduceSub,f1,f2,l2,JZ,lw];rfl),s',ws++[(v,u)],J (au v),J (.lst ((rows.filter λr=>decide (gR r pl=v)).map au)),?_,?_,?_,mK⟩
    ·rw[Ą];rfl
    ·rw[Ą,hw,List.take_succ,hv];rfl
    ·intro w SQ;rcases ñ.mp SQ with z|z
     ·exact hws w z
     ·rw[ð.mp z];refine⟨⟨by rw[<-hv1];unfold gR;rw[Æ],?_⟩,hu⟩;show F1 v;rw[<-hv1];obtain⟨b',hb1,Vn⟩:=hr.1.2 r1 rO;exact MG (λc hc=>iQ b' hb1 c (Vn.mem_iff.mp hc)) (by rw[lh hb hr.1 r1 rO];exact XX)) (B:=[J s2,J (.lst (rows.map au)),J (.int k),J (.bl b),J (.int m),J (au pl),J (.lst (seen.map au)),J (.lst []),Z,Z,Z]) ⟨s2,[],Z,Z,rfl,rfl,(λw h=>by cases h),iK⟩
  rw[Æ,ź] at hw;have lw:ws.length=seen.length:=by rw[<-hw,Æ]
  have ls:0<seen.length:=Ÿ.mpr ns;have nw:ws≠[]:=λz=>by grind
  obtain⟨q,s4,e6,q0,q1,hs4⟩:=cY (m:=6) hs3 (by decide) (by decide);have d4:decide ((4:Int)<(seen.length:Nat))=Y:=hJ (by lia);rw[fD] at e3 e5;simp only[Pzz,bF,Nat.reduceAdd,Nat.reduceSub,e0,fD,Æ,l0,e1,e2,pQ,p8,c1,hk,gf,VX,e3,e4,d4,e5,e6];by_cases cq:q=0
  ·subst cq;obtain⟨ys,s5,e7,ly,cs,hy,hcs,hs5⟩:=ju (G:=iX) (js:=[Z,J 0]) (sg:=cx 0) (ge:=jr 2 1 aB (ae (gC (.int 10)) ao))
    (λx:U=>[J x,J (.lst (rows.map au)),J (.int k),J (.bl b),J (.int m),J (.tup (pl.map U.int)),J (.lst (seen.map au)),J (.lst (ws.map kq)),o8,o9,Z]) pl.length (λys x=>∃cs:List Int,ys=cs.map U.int/\F1 cs/\kr x)
    (λdone u x hd h00=>by
     obtain⟨cs,hr,hc,hs⟩:=h00;obtain⟨r,x',b1,b2,b3,b4⟩:=cY (m:=10) hs (by decide) (by decide);refine⟨[J u,J x],.int r,[J u,J x'],x',rfl,?_,rfl,cs++[r],by rw[hr,Ą];rfl,(λc hx=>by rcases ñ.mp hx with z|z;exact hc c z;rw[ð.mp z];lia),b4⟩;simp only[Pzz,bF,Nat.reduceAdd,Nat.reduceSub,b1]) (pl.map U.int) [] s4 (by rw[Æ];simp) ⟨[],rfl,(λc h=>by cases h),hs4⟩
   rw[Τ] at hy;subst hy;have e8:KZ not (.tup (cs.map U.int)) (.lst (seen.map au))=.ok (.bl (!decide (cs∈seen))):=Ct cs seen;by_cases cc:cs∈seen
   ·rw[hG cc] at e8;refine⟨.tup [.str "look",.tup (pl.map U.int),.tup (ws.map kq)],s5,?_,yy XY nw (by (simp at *;lia)) (by rw[hw];exact Cs ups nds) hws,hs5⟩;simp only[Pzz,bF,Nat.reduceAdd,Nat.reduceSub,bu,Int.reduceBEq,id,e7,e8,ū]
   ·rw[hJ cc] at e8;obtain⟨ds,s6,e9,hds,hs6⟩:=yz (m:=m) hs5 m1 (by lia);obtain⟨ws',e10,lw',up',hws'⟩:=J1 (m:=m) (d:=d) (n:=pl.length) (ws:=ws++[(cs,.tup [.str "end",au ds])]) (λw SQ=>by
     rcases ñ.mp SQ with z|z
     ·exact hws w z
     ·rw[ð.mp z];cases d with
      |zero=>obtain⟨w,hw3⟩:=adS _ nw;cases (hws w hw3).2
      |succ=>exact⟨⟨by rw[Æ,Æ] at ly;exact ly,hcs⟩,uY hds⟩) (by
     rw[Ą,hw];show (seen++[cs]).Nodup;rw[Ϥ];exact⟨nds,by simp,λa ha c hc e=>cc (by rw[ð.mp hc] at e;rw[<-e];exact ha)⟩) (by rw[Þ];show ws.length+1<=1000;(simp;lia))
    rw[Þ] at lw';have YT:ws'.length=ws.length+1:=lw';have lc:ws.length+1<=Â:=by lia
    rw[Ą] at e10;have Z5:List.map kq [(cs,.tup [.str "end",au ds])]=[.tup [.tup (cs.map U.int),.tup [.str "end",au ds]]]:=rfl;rw[Z5,fD] at e10;refine⟨.tup [.str "look",.tup (pl.map U.int),.tup (ws'.map kq)],s6,?_,yy XY (λz=>by rw[z] at YT;cases YT) (by simp_all) up' hws',hs6⟩;simp only[Pzz,bF,Nat.reduceAdd,Nat.reduceSub,bu,Int.reduceBEq,id,e7,e8,Ŭ,UA,UB,l2,e9,fD,Æ,lc,e10]
  ·have b6:(q==0)=Y:=beq_eq_false_iff_ne.mpr cq;refine⟨.tup [.str "look",.tup (pl.map U.int),.tup (ws.map kq)],s4,?_,yy XY nw (by (simp at *;lia)) (by rw[hw];exact Cs ups nds) hws,hs4⟩;simp only[Pzz,bF,Nat.reduceAdd,Nat.reduceSub,bu,b6,id]
theorem u5 {base:List (List Int)}{m:Nat}(hb:F0 base m)(iQ:∀b∈base,F1 b):∀(k n:Nat),Cr base m (2*k+n+1) ((k:Int)+1) (k+1)
 |0,n=>JW hb (by lia)
 |k+1,n=>by
  have h1:=u5 hb iQ k (n+1);have h2:=u5 hb iQ k n;grind[F2,F3]
def Rl {bH:List Int}{n:Int}(h:¬bH.any (·==n)=M):PyProof.Rows.step_dedup bH n=bH++[n]:=hU h
theorem jZ {vs:List U}(h:Gj (.dct ks vs)):False:=by
 obtain⟨d,e,_⟩:=h;grind[iN]
theorem gg (h:Gj u):dQ [u]=.ok (.bl (zJ u)):=by
 have hs:=fJ h;cases u<;>first|exact hs.elim|exact (jZ h).elim|simp only[dQ,nj,Pzz,bF,Nat.reduceAdd,Nat.reduceSub,zJ]
def u6 (h:∀x∈us,Gj x){f:U->R (Option U)}{c:U->Bool}(hf:∀u,Gj u->f u=.ok (J (.bl (c u)))):(iS f us)=.ok (us.map λu=>.bl (c u)):=iT λu hu=>hf u (h u hu)
def Ei (u:U):Prop:=match u with
 | .tup us=>(us.all zJ=M->us.length<60)/\∀x∈us,Gj x
 | .scr _=>False
 | .dct _ _=>False
 | .obj _ _=>False
 |_=>True
def vU (u:U)(n:Nat):Bool:=match u with
 | .tup us=>match dP us with
  |some ns=>decide (qo ns=aY n)
  |none=>Y
 |_=>Y
theorem Cu (h:us.all zJ=Y):dP us=Z:=by
 cases e:dP us with
 |none=>rfl
 |some ns=>
  rw[fT e] at h;have:(ns.map U.int).all zJ=M:=by rw[ì];intro x hx;obtain⟨i,_,rfl⟩:=á.mp hx;rfl
  lia
theorem q_ {n:Nat}(h:Ei u)(hn:n<=1000):dR [u,.int n]=.ok (.bl (vU u n)):=by
 cases u<;>first|exact h.elim|skip
 case tup us=>
  have e:iS (j8 [Z] (cx 0) bK (dz 1 dQ (ae (af 0) ao)) [J (U.tup us),J (U.int n)]) us=.ok (us.map λu=>.bl (zJ u)):=
   u6 h.2 λu hu=>by simp only[Pzz,bF,Nat.reduceAdd,Nat.reduceSub,gg hu]
  cases c:us.all zJ with
  |false=>
   simp only[dR,jS,Pzz,bF,Nat.reduceAdd,Nat.reduceSub,e,cE,c,vU,Cu c]
  |true=>
   obtain⟨ns,rfl⟩:=xM c;have hl:ns.length<64:=by have:=h.1 c;rw[Æ] at this;lia
   simp only[dR,jS,Pzz,bF,Nat.reduceAdd,Nat.reduceSub,e,cE,c,vU,iq,Fu hl,DM n (by lia),iy,L6,id]
 all_goals kernel_rfl
theorem F4 (n:Nat):(aY n).Pairwise (·<=·):=by
 unfold aY;rw[Ţ];exact List.pairwise_lt_range.imp λh=>by lia
def J2 {n:Nat}:qo ns=aY n↔ns.Perm (aY n):=by
 constructor
 ·intro h;rw[<-h];exact (ir ns).symm
 ·intro h;exact PySem.W.ksm_same ((ir ns).trans h) (tN ns) (F4 n)
def OO (u:U):Prop:=match u with
 | .tup us=>∀x∈us,Gj x/\Ei x
 | .scr _=>False
 | .dct _ _=>False
 | .obj _ _=>False
 |_=>True
def ML (u:U)(n:Nat):Bool:=match u with
 | .tup us=>decide (1<=us.length)&&decide (us.length<=24)&&us.all λx=>vU x n
 |_=>Y
theorem vV {n:Nat}(h:OO u)(hn:n<=1000):dj [u,.int n]=.ok (.bl (ML u n)):=by
 cases u<;>first|exact h.elim|skip
 case tup us=>
  have e:iS (j8 [Z,J 1] (cx 0) bK (dz 2 dR (ae (af 0) (ae (af 1) ao))) [J (U.tup us),J (U.int n)]) us=.ok (us.map λu=>.bl (vU u n)):=
   iT λu hu=>by simp only[Pzz,bF,Nat.reduceAdd,Nat.reduceSub,q_ (h u hu).2 hn]
  by_cases c1:(1:Int)<=us.length
  ·by_cases c2:(us.length:Int)<=24
   ·simp only[dj,fq,Pzz,bF,Nat.reduceAdd,Nat.reduceSub,hG c1,hG c2,e,cE,ML];grind
   ·simp only[dj,fq,Pzz,bF,Nat.reduceAdd,Nat.reduceSub,hG c1,hJ c2,ML];rw[hJ (show ¬us.length<=24 by lia),Δ];rfl
  ·simp only[dj,fq,Pzz,bF,Nat.reduceAdd,Nat.reduceSub,hJ c1,ML];rw[hJ (show ¬1<=us.length by lia)];rfl
 all_goals kernel_rfl
def MM (u:U):Bool:=match u with|.tup us=>us.all zJ|_=>Y
def gj:Nat->U->Bool
 |0,u=>match u with|.tup _=>Y|.lst _=>Y|.dct _ _=>Y|.scr _=>Y|.obj _ _=>Y|_=>M
 |n+1,u=>match u with
  | .tup us=>(decide (us.length<60)||us.all MM)&&decide (us.length<=2000)&&us.all (gj n)
  | .lst us=>us.all (gj n)
  | .dct _ _=>Y
  | .scr _=>Y
  | .obj _ _=>Y
  |_=>M
theorem yB {B:Nat}:∀{ds:List D},(∀d∈ds,du d<=B)->jn ds<=B
 | [],_=>by unfold jn;lia
 |d::ds,h=>by
  have h1:=h d Ú;have h2:=yB λx hx=>h x (Ý _ hx);unfold jn;lia
theorem J3:∀{n:Nat} {u:U},gj n u=M->∃d,iN u=J d/\du d<=n:=by
 intro n
 induction n with
 |zero=>
  intro u h;cases u<;>first|(cases h;done)|exact⟨_,by unfold iN;rfl,by unfold du;lia⟩
 |succ n ih=>
  have all:∀{us:List U},us.all (gj n)=M->∃ds,ij us=J ds/\∀d∈ds,du d<=n:=by
   intro us
   induction us with
   |nil=>intro _;exact⟨[],by unfold ij;rfl,λd h=>by cases h⟩
   |cons u us iu=>
    intro h;rw[Œ,é] at h;obtain⟨d,e,l⟩:=ih h.1;obtain⟨ds,e2,l2⟩:=iu h.2;refine⟨d::ds,by unfold ij;rw[e,e2];rfl,λx hx=>?_⟩;rcases à.mp hx with rfl|z
    ·exact l
    ·exact l2 x z
  intro u h;cases u<;>first|(cases h;done)|skip
  case tup us=>
   unfold gj at h;dsimp only at h;rw[é] at h;obtain⟨ds,e,l⟩:=all h.2;simp_all[iN,du,yB]
  case lst us=>
   unfold gj at h;dsimp only at h;obtain⟨ds,e,l⟩:=all h;simp_all[iN,du,yB]
  all_goals exact⟨_,by unfold iN;rfl,by unfold du;lia⟩
theorem ll {n:Nat}(h:gj n u=M)(hn:n<=20):Gj u:=by
 obtain⟨d,e,l⟩:=J3 h;exact⟨d,e,by lia⟩
theorem UD:∀{n:Nat} {u:U},gj n u=M->gj (n+1) u=M:=by
 intro n
 induction n with
 |zero=>intro u h;cases u<;>first|(cases h;done)|rfl
 |succ n ih=>
  intro u h;cases u<;>first|(cases h;done)|skip
  case tup us=>
   unfold gj at h |-;dsimp only at h |-;rw[é] at h |-;exact⟨h.1,ì.mpr λx hx=>ih (ì.mp h.2 x hx)⟩
  case lst us=>
   unfold gj at h |-;dsimp only at h |-;exact ì.mpr λx hx=>ih (ì.mp h x hx)
  all_goals rfl
theorem Ej {n:Nat}(h:gj n u=M)(hk:n<=k):gj k u=M:=by
 induction hk with
 |refl=>exact h
 |step _ ih=>exact UD ih
theorem Rn (h1:us.all MM=M)(h2:us.all zJ=M):us=[]:=by
 cases us with
 |nil=>rfl
 |cons v us=>
  rw[Œ,é] at h1 h2;have a:=h1.1;have b:=h2.1;cases v<;>first|(cases a;done)|cases b
def gA {n:Nat}(h:gj (n+1) (.tup us)=M):(us.all zJ=M->us.length<60)/\us.length<=2000/\∀x∈us,gj n x=M:=by
 unfold gj at h;dsimp only at h;simp only[é,ϰ,decide_eq_true_eq] at h;exact⟨λz=>h.1.1.elim id λq=>by rw[Rn q z];decide,h.1.2,λx hx=>ì.mp h.2 x hx⟩
def Ro {n:Nat}(h:gj (n+1) (.tup us)=M):us.length<60\/us.all MM=M:=by
 simp_all[gj,é,ϰ,decide_eq_true_eq]
theorem oZ {n:Nat}(h:gj n u=M)(hn:n<=20):Ei u:=by
 cases u<;>try trivial
 case tup us=>
  cases n with
  |zero=>cases h
  |succ n=>exact⟨(gA h).1,λx hx=>ll ((gA h).2.2 x hx) (by lia)⟩
 all_goals (cases n<;>cases h)
theorem J5 {n:Nat}(h:gj n u=M)(hn:n<=20):OO u:=by
 cases u<;>try trivial
 case tup us=>
  cases n with
  |zero=>cases h
  |succ n=>exact λx hx=>⟨ll ((gA h).2.2 x hx) (by lia),oZ ((gA h).2.2 x hx) (by lia)⟩
 all_goals (cases n<;>cases h)
noncomputable def iP (s:Str)(u:U):Bool:=match u with
 | .str x=>x==s
 |_=>Y
theorem kl {s:Str}(h:Gj u):n9 u (.str s)=.ok (iP s u):=by
 obtain⟨d,e,l⟩:=h;unfold n9;rw[e,show iN (.str s)=J (.str s) by rfl];dsimp only;rw[hV (by lia)];cases u
 case dct=>grind[iN]
 case scr=>grind[iN]
 case obj=>unfold iN at e;cases e
 case tup us=>
  unfold iN at e;obtain⟨ds,_,rfl⟩:=Ζ.mp e;rfl
 case lst us=>
  unfold iN at e;obtain⟨ds,_,rfl⟩:=Ζ.mp e;rfl
 all_goals (unfold iN at e;cases e;unfold i7;rfl)
theorem Ek (h:Gj u):eU [u]=.ok (.bl (BX 0 9 u)):=by
 have hs:=fJ h;cases u<;>first|exact hs.elim|exact (jZ h).elim|skip
 case int i=>
  by_cases c:(0:Int)<=i
  ·simp only[eU,lW,Pzz,bF,Nat.reduceAdd,Nat.reduceSub,gg h,zJ,BX,hG c,ĳ]
  ·simp only[eU,lW,Pzz,bF,Nat.reduceAdd,Nat.reduceSub,gg h,zJ,BX,hJ c,Β]
 all_goals kernel_rfl
def El (m:Nat)(u:U):Bool:=match u with
 | .tup us=> !us.isEmpty&&us.all (BX 0 (m-1))&&(match dP us with
  |some ns=>(kN ns).length==ns.length
  |none=>Y)
 |_=>Y
theorem F5 (h:ns.length<60):lS [.tup (ns.map .int)]=.ok (.int (kN ns).length):=by
 unfold lS;dsimp only;rw[iq];lia
def Em {hi:Int}(c:us.all (BX lo hi)=M):∃ns:List Int,us=ns.map .int:=xM (us:=us) (by rw[ì] at c |-;exact λx hx=>L7 (c x hx))
theorem u7 (a b:Nat):((a:Int)==(b:Int))=(a==b):=by
 by_cases h:a=b
 ·subst h;simp
 ·rw[beq_eq_false_iff_ne.mpr h,beq_eq_false_iff_ne.mpr (by lia)]
theorem jg (h:Ei u):cA [u,.int m]=.ok (.bl (El m u)):=by
 cases u<;>first|exact h.elim|skip
 case tup us=>
  have e:iS (j8 [Z,J 1] (cx 0) bK (kE (dz 1 dQ (ae (af 0) ao)) (jG KW Hz (gC (.int 0)) (af 0) (af 1))) [J (U.tup us),J (U.int m)]) us=.ok (us.map λu=>.bl (BX 0 (m-1) u)):=
   u6 h.2 λu hu=>by
    have hs:=fJ hu;cases u<;>first|exact hs.elim|exact (jZ hu).elim|skip
    case int i=>
     by_cases c:(0:Int)<=i
     ·have e2:decide (i<=(m:Int)-1)=decide (i<m):=decide_eq_decide.mpr (by lia);simp only[Pzz,bF,Nat.reduceAdd,Nat.reduceSub,gg hu,zJ,BX,hG c,ĳ,e2]
     ·simp only[Pzz,bF,Nat.reduceAdd,Nat.reduceSub,gg hu,zJ,BX,hJ c,Β]
    all_goals kernel_rfl
  by_cases hz:us=[]
  ·subst hz;rfl
  ·have l0:((us.length:Int)==0)=Y:=beq_eq_false_iff_ne.mpr (by simp[*]);have ie:us.isEmpty=Y:=by grind
   by_cases c:us.all (BX 0 (m-1))=M
   ·obtain⟨ns,rfl⟩:=Em c;have Z6:ns.length<60:=by
     have:=h.1 (by rw[ì];intro x hx;obtain⟨i,_,rfl⟩:=á.mp hx;rfl)
     rwa [Æ] at this
    rw[Æ] at l0;simp only[cA,fu,Pzz,bF,Nat.reduceAdd,Nat.reduceSub,cH,Æ,l0,e,cE,c,F5 Z6,El,ie,iq,Ŭ,ĳ,id,u7]
   ·have c:=Α.mpr c;simp only[cA,fu,Pzz,bF,Nat.reduceAdd,Nat.reduceSub,cH,l0,e,cE,c,El,Δ,Β,id]
 all_goals kernel_rfl
noncomputable def J6 (u:U):Nat:=match u with
 | .tup us=>us.length
 |_=>0
theorem J7 {α:Type}(xs:List α)(c:α->Bool):l8 [.lst (xs.map λx=>.bl (c x))]=.ok (.bl (xs.all c)):=by
 have e:jJ (xs.map λx=>.bl (c x))=J (xs.map c):=by
  induction xs with
  |nil=>rfl
  |cons x xs ih=>rw[å];unfold jJ;rw[ih];rfl
 unfold l8;dsimp only;rw[e];dsimp only;rw[υ];rfl
def UE (us:List U)(B:Ev):R (List U×Ev):=match us with
 | [u,w]=>match Fs u,Fs w with
  |some us,J ws=>.ok (List.zipWith (λa b=>.tup [a,b]) us ws,B)
  |_,_=>.stk
 |_=>.stk
def UG {ga:Ev->R (List U×Ev)}:L3 ga B=(ga B).bind λx=>UE x.1 x.2:=nr rfl
def MN {ws:List U}:UE [.tup us,.tup ws] B=.ok (List.zipWith (λa b=>.tup [a,b]) us ws,B):=nr rfl
def Zb {a b:U}:tm 2 (gr (cx i) (gr (cx j) wu)) (.tup [a,b]) B=.ok ((B.set i (J a)).set j (J b)):=nr rfl
def g6:kz (u::us) 0=J u:=by rw[show (0:Int)=((0:Nat):Int) from rfl,oq];rfl
def l_ {v:U}:kz (u::v::us) 1=J v:=by rw[show (1:Int)=((1:Nat):Int) from rfl,oq];rfl
def MO {v w:U}:kz (u::v::w::us) 2=J w:=by rw[show (2:Int)=((2:Nat):Int) from rfl,oq];rfl
def F6 (k:Nat)(u:U):Bool:=match u with
 | .tup [.tup cs,_]=>cs.length==k&&cs.all (BX 0 9)
 |_=>Y
def J8 (u:U):List Int:=match u with
 | .tup (.tup cs::_)=>(dP cs).getD []
 |_=>[]
theorem two (h:us.length=2):∃a b,us=[a,b]:=by
 match us,h with
 | [a,b],_=>exact⟨a,b,rfl⟩
theorem Rq (h:us.length≠2):F6 k (.tup us)=Y:=by
 unfold F6;split
 ·rename_i e;cases e;exact absurd rfl h
 ·rfl
theorem F7 {n:Nat}(h:gj n u=M)(hn:n<=20):iB [u,.int k]=.ok (.bl (F6 k u)):=by
 have ok:=ll h hn;have hs:=fJ ok;cases u<;>first|exact hs.elim|exact (jZ ok).elim|skip
 case tup us=>
  by_cases hl:us.length=2
  ·obtain⟨a,b,rfl⟩:=two hl;cases n with
   |zero=>cases h
   |succ n=>
    have ha:=(gA h).2.2 a Ú;have YU:=ll ha (by lia);have Z7:=fJ YU;have e2:(((2:Nat):Int)==2)=M:=by decide
    cases a<;>first|exact Z7.elim|exact (jZ YU).elim|skip
    case tup cs=>
     have hc:=oZ ha (by lia);have e:iS (j8 [Z] (cx 0) bK (dz 1 eU (ae (af 0) ao)) [J (.tup [.tup cs,b]),J (.int k),J (.tup cs)]) cs=.ok (cs.map λu=>.bl (BX 0 9 u)):=
      u6 hc.2 λu hu=>by simp only[Pzz,bF,Nat.reduceAdd,Nat.reduceSub,Ek hu]
     cases c:cs.length==k with
     |true=>
      simp only[iB,kW,Pzz,bF,Nat.reduceAdd,Nat.reduceSub,Ò,š,cH,bu,e2,ū,g6,u7,c,e,cE,F6,ĳ,id]
     |false=>
      simp only[iB,kW,Pzz,bF,Nat.reduceAdd,Nat.reduceSub,Ò,š,cH,bu,e2,ū,g6,u7,c,F6,Β,id]
    all_goals kernel_rfl
  ·have e2:((us.length:Int)==2)=Y:=beq_eq_false_iff_ne.mpr (by lia);simp only[iB,kW,Pzz,bF,Nat.reduceAdd,Nat.reduceSub,cH,bu,e2,Ŭ,Rq hl]
 all_goals kernel_rfl
theorem p9 (h:F6 k u=M):∃(ns:List Int) (x:U),u=.tup [.tup (ns.map .int),x]/\J8 u=ns/\ns.length=k/\(ns.map U.int).all (BX 0 9)=M:=by
 unfold F6 at h;split at h
 ·rename_i cs x;rw[é] at h;obtain⟨ns,rfl⟩:=Em h.2;refine⟨ns,x,rfl,?_,?_,h.2⟩
  ·unfold J8;dsimp only;rw[iq];rfl
  ·have:=h.1;rw[beq_iff_eq,Æ] at this;exact this
 ·cases h
noncomputable def F8:List (List Int)->Bool
 |a::b::r=>HT.lexLt a b&&F8 (b::r)
 |_=>M
def J9 (k:Nat)(u:U):Bool:=match u with
 | .tup us=> !us.isEmpty&&us.all (F6 k)&&F8 (us.map J8)
 |_=>Y
theorem Rr (us ws:List U):List.zipWith (λa b=>U.tup [a,b]) us ws=(us.zip ws).map λp=>U.tup [p.1,p.2]:=by
 induction us generalizing ws with
 |nil=>rfl
 |cons u us ih=>cases ws with
  |nil=>rfl
  |cons w ws=>simp[*]
theorem En:∀us:List U,((us.zip (us.drop 1)).all λp=>HT.lexLt (J8 p.1) (J8 p.2))=F8 (us.map J8)
 | []=>rfl
 | [_]=>rfl
 |a::b::r=>by
  have ih:=En (b::r);simp_all[å,F8]
def Rt {a b:List Int}:Jr (.tup (a.map .int)) (.tup (b.map .int))=.ok (.bl (HT.lexLt a b)):=by
 simp[Jr,VD,iq]
def UH:jt us (J 1) Z=us.drop 1:=k9 us 1
theorem A5 {n:Nat}(h:gj n u=M)(hn:n<=20):eM [u,.int k]=.ok (.bl (J9 k u)):=by
 have ok:=ll h hn;have hs:=fJ ok;cases u<;>first|exact hs.elim|exact (jZ ok).elim|skip
 case tup us=>
  cases n with
  |zero=>cases h
  |succ n=>
   have hm:=(gA h).2.2;by_cases hz:us=[]
   ·subst hz;rfl
   ·have l0:((us.length:Int)==0)=Y:=beq_eq_false_iff_ne.mpr (by have:=Ÿ.mpr hz;lia);have ie:us.isEmpty=Y:=by grind
    have e:iS (j8 [Z,J 1] (cx 0) bK (dz 2 iB (ae (af 0) (ae (af 1) ao))) [J (U.tup us),J (U.int k)]) us=.ok (us.map λu=>.bl (F6 k u)):=
     iT λu hu=>by simp only[Pzz,bF,Nat.reduceAdd,Nat.reduceSub,F7 (hm u hu) (by lia)]
    cases c:us.all (F6 k) with
    |false=>simp only[eM,iC,Pzz,bF,Nat.reduceAdd,Nat.reduceSub,cH,bu,l0,e,cE,c,J9,Δ,Β,id]
    |true=>
     have e2:iS (j8 [Z,Z] (tm 2 (gr (cx 0) (gr (cx 1) wu))) bK (aI Jr (aI c7 (af 0) (gC (.int 0))) (aI c7 (af 1) (gC (.int 0)))) [J (U.tup us),J (U.int k)]) ((us.zip (us.drop 1)).map λp=>U.tup [p.1,p.2])=.ok ((us.zip (us.drop 1)).map λp=>U.bl (HT.lexLt (J8 p.1) (J8 p.2))):=
      eH λp hp=>by
       obtain⟨a,b⟩:=p;have m1:=σ hp;obtain⟨ns,x,rfl,k1,_,_⟩:=p9 (ì.mp c a m1.1);obtain⟨ms,y,rfl,k2,_,_⟩:=p9 (ì.mp c b (Ź m1.2));dsimp only;rw[k1,k2];simp only[Pzz,bF,Nat.reduceAdd,Nat.reduceSub,Zb,ŵ,Ŷ,g6,Rt]
     simp only[eM,iC,Pzz,bF,Nat.reduceAdd,Nat.reduceSub,cH,bu,l0,e,cE,c,UG,UH,MN,Rr,e2,J7,En,J9,ie,Ŭ,ĳ,id]
 all_goals kernel_rfl
def hR:Ev->SR:=(aG (fz (gB (aI (lP id) (aI c7 (af 0) (gC (.int 0))) (gC (.str "lay")))) (bb (dz 2 dR (ae (aI c7 (af 0) (gC (.int 1))) (ae (af 1) ao)))) bg)
 (aG (fz (gB (aI (lP id) (aI c7 (af 0) (gC (.int 0))) (gC (.str "mix")))) (bb (dz 2 dj (ae (aI c7 (af 0) (gC (.int 1))) (ae (af 1) ao)))) bg)
 (bb (kE (aI (lP id) (aI c7 (af 0) (gC (.int 0))) (gC (.str "look"))) (kE (dz 2 cA (ae (aI c7 (af 0) (gC (.int 1))) (ae (af 1) ao))) (dz 2 eM (ae (aI c7 (af 0) (gC (.int 2))) (ae (dq dI (ae (aI c7 (af 0) (gC (.int 1))) ao)) ao))))))))
def yC:nk=(aG (fz (ze (jq (gB (f6 "tuple" (af 0)))) (gB (aI (lP id) (dq dI (ae (af 0) ao)) (gC (.int 0))))) (bb (gC (.bl Y))) bg)
 (aG (fz (gB (aI (lP id) (aI c7 (af 0) (gC (.int 0))) (gC (.str "again")))) (bb (aI (lP id) (dq dI (ae (af 0) ao)) (gC (.int 1)))) bg)
 (aG (fz (gB (aI (lP id) (aI c7 (af 0) (gC (.int 0))) (gC (.str "end")))) (bb (kE (aI (lP id) (dq dI (ae (af 0) ao)) (gC (.int 2))) (dz 2 cA (ae (aI c7 (af 0) (gC (.int 1))) (ae (af 1) ao))))) bg)
 (aG (fz (gB (aI (gI not) (dq dI (ae (af 0) ao)) (gC (.int 3)))) (bb (gC (.bl Y))) bg)
 hR)))):=rfl
def j0 (m:Nat)(u:U):Bool:=match u with
 | .tup (w::r)=>if iP "again" w then r.isEmpty else if iP "end" w then (match r with
   | [p]=>El m p
   |_=>Y) else (match r with
   | [p,q]=>if iP "lay" w then vU p m else if iP "mix" w then ML p m else iP "look" w&&(El m p&&J9 (J6 p) q)
   |_=>Y)
 |_=>Y
theorem Ru {p:U}(h:El m p=M):∃us,p=.tup us/\J6 p=us.length:=by
 cases p<;>first|(cases h;done)|exact⟨_,rfl,rfl⟩
theorem rf {n:Nat}(h:gj n u=M)(hn:n<=20)(hm:m<=1000):bG [u,.int m]=.ok (.bl (j0 m u)):=by
 have ok:=ll h hn;have hs:=fJ ok;cases u<;>first|exact hs.elim|exact (jZ ok).elim|skip
 case tup us=>
  cases n with
  |zero=>cases h
  |succ n=>
   have hg:=(gA h).2.2;cases us with
   |nil=>rfl
   |cons w r=>
    have l0:(((r.length+1:Nat):Int)==0)=Y:=beq_eq_false_iff_ne.mpr (by lia);have hw:=ll (hg w Ú) (by lia);simp only[bG,yC,hR,Pzz,bF,Nat.reduceAdd,Nat.reduceSub,Ò,cH,bu,l0,g6,kl hw,id];cases c1:iP "again" w with
    |true=>
     have e1:(((r.length+1:Nat):Int)==1)=r.isEmpty:=by
      cases r with
      |nil=>rfl
      |cons x r=>rfl
     simp only[Pzz,bF,e1,j0,c1,if_true]
    |false=>
     cases c2:iP "end" w with
     |true=>
      match r with
      | []=>
       have e0:(((1:Nat):Int)==0)=Y:=by decide
       have e2:(((1:Nat):Int)==2)=Y:=by decide
       have l3:([w]:List U).length=1:=rfl;simp only[Pzz,bF,Nat.reduceAdd,Nat.reduceSub,l3,cH,bu,e0,g6,kl hw,c1,c2,e2,j0,id,if_true,đ,if_false]
      | [p]=>
       have e0:(((2:Nat):Int)==0)=Y:=by decide
       have e2:(((2:Nat):Int)==2)=M:=by decide
       have l3:([w,p]:List U).length=2:=rfl;have hp:=oZ (hg p (Ý _ Ú)) (by lia);simp only[Pzz,bF,Nat.reduceAdd,Nat.reduceSub,l3,cH,bu,e0,e2,g6,l_,kl hw,c1,c2,jg hp,j0,id,if_true,đ,if_false]
      |p::q::r=>
       have l3:(w::p::q::r).length=r.length+3:=rfl;have e0:(((r.length+3:Nat):Int)==0)=Y:=beq_eq_false_iff_ne.mpr (by lia);have e2:(((r.length+3:Nat):Int)==2)=Y:=beq_eq_false_iff_ne.mpr (by lia);simp only[Pzz,bF,Nat.reduceAdd,Nat.reduceSub,l3,cH,bu,e0,g6,kl hw,c1,c2,e2,j0,id,if_true,đ,if_false]
     |false=>
      match r with
      | []=>
       have e0:(((1:Nat):Int)==0)=Y:=by decide
       have e2:(((1:Nat):Int)==3)=Y:=by decide
       have l3:([w]:List U).length=1:=rfl;simp only[Pzz,bF,Nat.reduceAdd,Nat.reduceSub,l3,cH,bu,e0,g6,kl hw,c1,c2,e2,j0,id,Ŭ,if_true,đ,if_false]
      | [p]=>
       have e0:(((2:Nat):Int)==0)=Y:=by decide
       have e2:(((2:Nat):Int)==3)=Y:=by decide
       have l3:([w,p]:List U).length=2:=rfl;simp only[Pzz,bF,Nat.reduceAdd,Nat.reduceSub,l3,cH,bu,e0,g6,kl hw,c1,c2,e2,j0,id,Ŭ,if_true,đ,if_false]
      |p::q::x::r=>
       have l3:(w::p::q::x::r).length=r.length+4:=rfl;have e0:(((r.length+4:Nat):Int)==0)=Y:=beq_eq_false_iff_ne.mpr (by lia);have e2:(((r.length+4:Nat):Int)==3)=Y:=beq_eq_false_iff_ne.mpr (by lia);simp only[Pzz,bF,Nat.reduceAdd,Nat.reduceSub,l3,cH,bu,e0,g6,kl hw,c1,c2,e2,j0,id,Ŭ,if_true,đ,if_false]
      | [p,q]=>
       have hp:=hg p (Ý _ Ú);have hq:=hg q (Ý _ (Ý _ Ú));have tp:=oZ hp (by lia);have e3:(((3:Nat):Int)==3)=M:=rfl;simp only[Pzz,bF,Nat.reduceAdd,Nat.reduceSub,Ò,š,g6,l_,kl hw,e3,c1,c2,id,ū,đ,if_false,j0];cases c3:iP "lay" w with
       |true=>simp only[Pzz,bF,Nat.reduceAdd,Nat.reduceSub,g6,l_,kl hw,c1,c2,c3,q_ tp hm,j0,id,if_true,đ,if_false]
       |false=>
        cases c4:iP "mix" w with
        |true=>simp only[Pzz,bF,Nat.reduceAdd,Nat.reduceSub,g6,l_,kl hw,c1,c2,c3,c4,vV (J5 hp (by lia)) hm,j0,id,if_true,đ,if_false]
        |false=>
         cases c5:iP "look" w with
         |false=>simp only[Pzz,bF,Nat.reduceAdd,Nat.reduceSub,g6,l_,kl hw,c1,c2,c3,c4,c5,j0,id,đ,if_false,Β]
         |true=>
          cases c6:El m p with
          |false=>simp only[Pzz,bF,Nat.reduceAdd,Nat.reduceSub,g6,l_,kl hw,c1,c2,c3,c4,c5,jg tp,c6,j0,id,đ,if_false,Β,Δ]
          |true=>
           obtain⟨us,rfl,lu⟩:=Ru c6;simp only[Pzz,bF,Nat.reduceAdd,Nat.reduceSub,g6,l_,MO,kl hw,c1,c2,c3,c4,c5,jg tp,c6,A5 hq (show n<=20 by lia),j0,lu,id,đ,if_false,ĳ]
 all_goals kernel_rfl
noncomputable def Cv (u:U):U:=match u with
 | .tup [_,x]=>x
 |_=>.non
def bC (u:U):List U:=match u with
 | .tup [w,_,q]=>if iP "look" w then (match q with
   | .tup ws=>ws.map Cv
   |_=>[]) else [q]
 |_=>[]
theorem u9 {s:Str}(h:iP s u=M):u=.str s:=by
 cases u<;>first|(cases h;done)|skip
 unfold iP at h;rw[beq_iff_eq.mp h]
def J_:iP "end" (.str "again")=Y/\iP "lay" (.str "again")=Y/\iP "mix" (.str "again")=Y/\iP "look" (.str "again")=Y/\iP "again" (.str "again")=M/\iP "again" (.str "end")=Y/\iP "end" (.str "end")=M/\iP "lay" (.str "end")=Y/\iP "mix" (.str "end")=Y/\iP "look" (.str "end")=Y/\iP "again" (.str "lay")=Y/\iP "end" (.str "lay")=Y/\iP "lay" (.str "lay")=M/\iP "mix" (.str "lay")=Y/\iP "look" (.str "lay")=Y/\iP "again" (.str "mix")=Y/\iP "end" (.str "mix")=Y/\iP "lay" (.str "mix")=Y/\iP "mix" (.str "mix")=M/\iP "look" (.str "mix")=Y/\iP "again" (.str "look")=Y/\iP "end" (.str "look")=Y/\iP "lay" (.str "look")=Y/\iP "mix" (.str "look")=Y/\iP "look" (.str "look")=M:=by decide
theorem A6 (h:j0 m u=M):u=.tup [.str "again"]\/(∃p,u=.tup [.str "end",p]/\El m p=M)\/(∃p q,u=.tup [.str "lay",p,q]/\vU p m=M)\/(∃p q,u=.tup [.str "mix",p,q]/\ML p m=M)\/∃p ws,u=.tup [.str "look",p,.tup ws]/\El m p=M/\J9 (J6 p) (.tup ws)=M:=by
 unfold j0 at h;split at h
 ·rename_i w r;by_cases c1:iP "again" w=M
  ·rw[hV c1] at h;rw[u9 c1];cases r with
   |nil=>exact .inl rfl
   |cons=>cases h
  ·rw[hU c1] at h;by_cases c2:iP "end" w=M
   ·rw[hV c2] at h;rw[u9 c2];split at h
    ·exact .inr (.inl ⟨_,rfl,h⟩)
    ·cases h
   ·rw[hU c2] at h;split at h
    ·rename_i p q;by_cases c3:iP "lay" w=M
     ·rw[hV c3] at h;rw[u9 c3];exact .inr (.inr (.inl ⟨p,q,rfl,h⟩))
     ·rw[hU c3] at h;by_cases c4:iP "mix" w=M
      ·rw[hV c4] at h;rw[u9 c4];exact .inr (.inr (.inr (.inl ⟨p,q,rfl,h⟩)))
      ·rw[hU c4,é,é] at h;rw[u9 h.1];have h3:=h.2.2;cases q<;>first|(cases h3;done)|skip
       exact .inr (.inr (.inr (.inr ⟨p,_,rfl,h.2.1,h3⟩)))
    ·cases h
 ·cases h
def Ka {ws:List U}(h:J9 k (.tup ws)=M):ws≠[]/\∀w∈ws,F6 k w=M:=by
 simp_all[J9,é,absurd]
theorem MP {n:Nat}(g:gj n u=M)(h:j0 m u=M):bC u=[]\/(∃q k,n=k+1/\bC u=[q]/\gj k q=M)\/∃k,n=k+3/\bC u≠[]/\(bC u).length<60/\∀q∈bC u,gj k q=M:=by
 rcases A6 h with rfl|⟨p,rfl,_⟩|⟨p,q,rfl,_⟩|⟨p,q,rfl,_⟩|⟨p,ws,rfl,_,hw⟩
 ·exact .inl rfl
 ·exact .inl rfl
 ·cases n with
  |zero=>cases g
  |succ n=>
   refine .inr (.inl ⟨q,n,rfl,?_,(gA g).2.2 q (Ý _ (Ý _ Ú))⟩);rfl
 ·cases n with
  |zero=>cases g
  |succ n=>
   refine .inr (.inl ⟨q,n,rfl,?_,(gA g).2.2 q (Ý _ (Ý _ Ú))⟩);rfl
 ·obtain⟨ne,hy⟩:=Ka hw;have ek:bC (.tup [.str "look",p,.tup ws])=ws.map Cv:=by rfl
  rw[ek];cases n with
  |zero=>cases g
  |succ n=>
   have g1:=(gA g).2.2 (.tup ws) (Ý _ (Ý _ Ú));cases n with
   |zero=>cases g1
   |succ n=>
    have g2:=(gA g1).2.2;have few:ws.length<60:=(Ro g1).elim id λz=>by
     obtain⟨w,r,rfl⟩:=ϛ ne;obtain⟨ns,x,rfl,_⟩:=p9 (hy w Ú);simp_all[Œ,é,absurd,MM,zJ]
    cases n with
    |zero=>
     obtain⟨w,r,rfl⟩:=ϛ ne;obtain⟨ns,x,rfl,_⟩:=p9 (hy w Ú);exact absurd (g2 _ Ú) (by unfold gj;simp)
    |succ n=>
     refine .inr (.inr ⟨n,rfl,λz=>ne (ae9.mp z),by rw[Æ];exact few,λq hq=>?_⟩);obtain⟨w,SQ,rfl⟩:=á.mp hq;obtain⟨ns,x,rfl,_⟩:=p9 (hy w SQ);exact (gA (g2 _ SQ)).2.2 x (Ý _ Ú)
theorem Eo {n:Nat}(g:gj (n+1) u=M)(h:j0 m u=M):(∀q∈bC u,gj n q=M)/\(bC u).length<60:=by
 rcases MP g h with z|⟨q,k,e,z,gq⟩|⟨k,e,_,l,gq⟩
 ·rw[z];exact⟨λq hq=>(by cases hq),by decide⟩
 ·rw[z];refine⟨λq' hq=>?_,by rw[Ϝ];decide⟩;rw[ð.mp hq];exact Ej gq (by lia)
 ·exact⟨λq hq=>Ej (gq q hq) (by lia),l⟩
theorem Kb (g:gj 0 u=M):j0 m u=Y:=by
 cases u<;>first|(cases g;done)|rfl
noncomputable def mx:List Nat->Nat
 | []=>0
 |x::xs=>max x (mx xs)
def aF (m:Nat):Nat->U->Bool
 |0,_=>Y
 |n+1,u=>j0 m u&&(bC u).all (aF m n)
def sz:Nat->U->Nat
 |0,_=>0
 |n+1,u=>1+((bC u).map (sz n)).sum
def hg:Nat->U->Nat
 |0,_=>0
 |n+1,u=>1+mx ((bC u).map (hg n))
theorem Ep {B:Nat}:∀{zs:List Nat},(∀z∈zs,z<=B)->zs.sum<=zs.length*B
 | [],_=>by simp
 |z::zs,h=>by
  have h1:=Ep λy hy=>h y (Ý _ hy);have h2:=h z Ú;rw[Υ,Ò,Nat.add_mul];lia
theorem Er {n:Nat}(g:gj n u=M)(h:j0 m u=M):(bC u).length<60:=by
 cases n with
 |zero=>rw[Kb g] at h;cases h
 |succ n=>exact (Eo g h).2
theorem A7 {m n:Nat}:∀{us:List U},(∀u∈us,gj n u=M)->(∀u∈us,j0 m u=M)->(us.flatMap bC).length<=60*us.length
 | [],_,_=>by simp
 |u::us,g,h=>by
  have h1:=A7 (m:=m) (λx hx=>g x (Ý _ hx)) λx hx=>h x (Ý _ hx);have h2:=Er (g u Ú) (h u Ú);rw[afF,Þ,Ò];lia
theorem F9 {n:Nat}(hl:us.length<=60)(g:∀u∈us,gj n u=M)(h:∀u∈us,j0 m u=M):dU [.lst us]=.ok (.lst (us.flatMap bC)):=by
 have ZE:Â=16777216:=rfl;obtain⟨B',e,o,rfl⟩:=gW (sg:=cx 2) (s:=gy) (us:=us) (λi B=>∃o,B=[J (.lst us),J (.lst ((us.take i).flatMap bC)),o])
  (λi u B hu h00=>by
   obtain⟨o,hρ⟩:=h00;subst hρ;have hm:=į hu;have tk:us.take (i+1)=us.take i++[u]:=by rw[List.take_succ,hu];rfl
   have b:((us.take i).flatMap bC).length<=3600:=by
    have:=A7 (m:=m) (us:=us.take i) (λx hx=>g x (Ļ hx)) λx hx=>h x (Ļ hx);grind
   refine⟨_,_,rfl,.inl ?_,J u,rfl⟩;rw[tk,List.flatMap_append,List.flatMap_singleton];generalize (us.take i).flatMap bC=K at b |-;unfold gy;rcases A6 (h u hm) with rfl|⟨p,rfl,_⟩|⟨p,q,rfl,_⟩|⟨p,q,rfl,_⟩|⟨p,ws,rfl,_,hw⟩
   ·have hk:bC (.tup [.str "again"])=[]:=rfl;rw[hk,ā];rfl
   ·have hk:bC (.tup [.str "end",p])=[]:=rfl;rw[hk,ā];rfl
   ·have hk:bC (.tup [.str "lay",p,q])=[q]:=by rfl
    have lk:K.length<Â:=by lia
    rw[hk];simp only[Ŷ,ŵ,Pzz,bF,Nat.reduceAdd,Nat.reduceSub,g6,MO,kl (oB _),J_,JZ,lk,id]
   ·have hk:bC (.tup [.str "mix",p,q])=[q]:=by rfl
    have lk:K.length<Â:=by lia
    rw[hk];simp only[Ŷ,ŵ,Pzz,bF,Nat.reduceAdd,Nat.reduceSub,g6,MO,kl (oB _),J_,JZ,lk,id]
   ·have hk:bC (.tup [.str "look",p,.tup ws])=ws.map Cv:=by rfl
    have lw:=Er (g _ hm) (h _ hm);rw[hk] at lw |-;rw[Æ] at lw;have lk:K.length+(ws.map Cv).length<=Â:=by rw[Æ];lia
    obtain⟨ne,hy⟩:=Ka hw;have e:iS (j8 [Z] (cx 0) bK (aI c7 (af 0) (gC (.int 1))) [J (.lst us),J (.lst K),J (.tup [.str "look",p,.tup ws])]) ws=.ok (ws.map Cv):=
     iT λu hu=>by
      obtain⟨ns,x,rfl,_⟩:=p9 (hy u hu);rfl
    simp only[Ŷ,ŵ,Pzz,bF,Nat.reduceAdd,Nat.reduceSub,g6,MO,kl (oB _),J_,e,JN,lk,id]) (B:=[J (.lst us),J (.lst []),Z]) ⟨Z,rfl⟩
 rw[ź] at e;rw[dU,iD];simp only[Pzz,bF,Nat.reduceAdd,Nat.reduceSub,e]
def hI:Ev->R (Bool×Ev):=(gB (aI Gi (dq dI (ae (af 2) ao)) (gC (.int 0))))
def bI:Ev->SR:=(aG (BM 3 (Qa (λi j=>i+j)) (dq dI (ae (af 2) ao)))
 (aG (BM 4 (Qa (λi j=>i+j)) (gC (.int 1)))
 (aG (fz (ze (gB (aI Gi (af 3) (gC (.int 60)))) (gB (aI Gi (af 4) (gC (.int 12))))) (bb (gC (.bl Y))) bg)
 (aG (fz (jq (gB (dq l8 (ae (dH (d6 (af 2)) [Z,J 1] (cx 0) bK (dz 2 bG (ae (af 0) (ae (af 1) ao)))) ao)))) (bb (gC (.bl Y))) bg)
 (bL 2 (dz 1 dU (ae (af 2) ao)))))))
def W4:pY=(aG (bL 2 (fZ (ae (af 0) ao)))
 (aG (bL 3 (gC (.int 0)))
 (aG (bL 4 (gC (.int 0)))
 (aG (jI hI bI 1000)
 (bb (gC (.bl M))))))):=rfl
def Kc {N:Nat}(h:∀u∈us,j0 m u=M):us.all (aF m (N+1))=(us.flatMap bC).all (aF m N):=by
 rw[List.all_flatMap];rw[Γ,ì,ì];simp_all[aF,é,ĳ]
theorem u_ {N:Nat}:∀us:List U,(us.map (sz (N+1))).sum=us.length+((us.flatMap bC).map (sz N)).sum
 | []=>rfl
 |u::us=>by
  rw[å,Υ,u_ us,afF,Ą,List.sum_append,Ò];grind[sz,bC]
theorem Kd:∀a b:List Nat,mx (a++b)=max (mx a) (mx b)
 | [],b=>by simp[mx]
 |x::a,b=>by
  rw[ϡ];show max x (mx (a++b))=max (max x (mx a)) (mx b);rw[Kd a b];simp
theorem yD {N:Nat}:∀{us:List U},us≠[]->mx (us.map (hg (N+1)))=1+mx ((us.flatMap bC).map (hg N))
 | [],h=>absurd rfl h
 | [u],_=>by
  rw[List.flatMap_singleton];show max (hg (N+1) u) 0=_;rw[hg];lia
 |u::v::us,_=>by
  have ih:=yD (N:=N) (us:=v::us) (by simp);rw[afF,Ą,Kd,å];show max (hg (N+1) u) (mx ((v::us).map (hg (N+1))))=_;rw[ih,hg];simp
def LP (m N met dep:Nat)(us:List U):Bool:=us.all (aF m N)&&(decide (met+(us.map (sz N)).sum<=60)&&decide (us=[]\/dep+mx (us.map (hg N))<=12))
theorem MQ {N met:Nat}(ne:us≠[])(h:∀u∈us,j0 m u=M)(hd:dep+1<=12):LP m (N+1) met dep us=LP m N (met+us.length) (dep+1) (us.flatMap bC):=by
 unfold LP;rw[Kc h,u_,yD ne];congr 2
 ·lia
 ·refine decide_eq_decide.mpr ⟨λz=>.inr ?_,λz=>.inr ?_⟩
  ·(simp at *;lia)
  ·rcases z with z|z
   ·rw[z];show dep+(1+0)<=12;lia
   ·lia
theorem Rx {N:Nat}:∀us:List U,us.length<=(us.map (sz (N+1))).sum:=λus=>by rw[u_];lia
def MR {f:Int->Int->Int}{i j:Int}:Qa f (.int i) (.int j)=.ok (.int (f i j)):=nr rfl
def OP {x0 x1 x3 x4:Option U}:hI [x0,x1,J (.lst us),x3,x4]=.ok (decide ((0:Int)<((us.length:Nat):Int)),[x0,x1,J (.lst us),x3,x4]):=by
 rfl
theorem OQ {n met:Nat}{t:U}(hm:m<=1000)(hn:n<=20)(g:∀u∈us,gj n u=M)(c:¬(met+us.length<=60/\dep+1<=12/\us.all (j0 m)=M)) :
  ∃B',bI [J t,J (.int m),J (.lst us),J (.int met),J (.int dep)]=.rt (.bl Y) B':=by
 have e:iS (j8 [Z,J 1] (cx 0) bK (dz 2 bG (ae (af 0) (ae (af 1) ao))) [J t,J (.int m),J (.lst us),J (.int (met+(us.length:Nat))),J (.int (dep+1))]) us=.ok (us.map λu=>.bl (j0 m u)):=
  iT λu hu=>by simp only[Pzz,bF,Nat.reduceAdd,Nat.reduceSub,rf (g u hu) hn hm]
 refine⟨[J t,J (.int m),J (.lst us),J (.int (met+(us.length:Nat))),J (.int (dep+1))],?_⟩;unfold bI;by_cases c1:(60:Int)<(met+(us.length:Nat):Int)
 ·simp only[Pzz,bF,Nat.reduceAdd,Nat.reduceSub,pQ,MR,hG c1]
 ·by_cases c2:(12:Int)<(dep+1:Int)
  ·simp only[Pzz,bF,Nat.reduceAdd,Nat.reduceSub,pQ,MR,hJ c1,hG c2]
  ·have c3:us.all (j0 m)=Y:=by
    lia
   simp only[Pzz,bF,Nat.reduceAdd,Nat.reduceSub,pQ,MR,hJ c1,hJ c2,e,cE,c3]
theorem Ry {n met:Nat}{t:U}(hm:m<=1000)(hn:n<=20)(g:∀u∈us,gj n u=M)(h1:met+us.length<=60)(h2:dep+1<=12)(h3:us.all (j0 m)=M) :
  bI [J t,J (.int m),J (.lst us),J (.int met),J (.int dep)]=.nx [J t,J (.int m),J (.lst (us.flatMap bC)),J (.int ((met+us.length:Nat):Int)),J (.int ((dep+1:Nat):Int))]:=by
 have e:iS (j8 [Z,J 1] (cx 0) bK (dz 2 bG (ae (af 0) (ae (af 1) ao))) [J t,J (.int m),J (.lst us),J (.int (met+(us.length:Nat))),J (.int (dep+1))]) us=.ok (us.map λu=>.bl (j0 m u)):=
  iT λu hu=>by simp only[Pzz,bF,Nat.reduceAdd,Nat.reduceSub,rf (g u hu) hn hm]
 have wi:=F9 (m:=m) (us:=us) (by lia) g (ì.mp h3);have c1:¬(60:Int)<(met+(us.length:Nat):Int):=by lia
 have c2:¬(12:Int)<(dep+1:Int):=by lia
 have m1:((met+us.length:Nat):Int)=(met:Int)+(us.length:Nat):=by lia
 have m2:((dep+1:Nat):Int)=(dep:Int)+1:=by lia
 unfold bI;simp only[Pzz,bF,Nat.reduceAdd,Nat.reduceSub,pQ,MR,hJ c1,hJ c2,e,cE,h3,wi,m1,m2]
theorem OR {N met:Nat}(ne:us≠[])(c:¬(met+us.length<=60/\dep+1<=12/\us.all (j0 m)=M)):LP m (N+1) met dep us=Y:=by
 rw[Α];intro z;unfold LP at z;rw[é,é,decide_eq_true_iff,decide_eq_true_iff] at z;obtain⟨z1,z2,z3⟩:=z;refine c ⟨?_,?_,?_⟩
 ·grind[Rx]
 ·grind[yD,absurd]
 ·exact ì.mpr λu hu=>by
   have:=ì.mp z1 u hu;unfold aF at this;exact (é _ _▸this).1
theorem MS {t:U}(hm:m<=1000):∀(n N cJ met dep:Nat) (us:List U),n<=20->n<N->n+1<cJ->met<=60->(∀u∈us,gj n u=M)->∃B',jI hI bI cJ [J t,J (.int m),J (.lst us),J (.int met),J (.int dep)]=if LP m N met dep us=M then .nx B' else .rt (.bl Y) B':=by
 intro n
 induction n with
 |zero=>
  intro N cJ met dep us hn hN hf XZ g;obtain⟨cJ,rfl⟩:∃f,cJ=f+1:=⟨cJ-1,by lia⟩;obtain⟨N,rfl⟩:∃f,N=f+1:=⟨N-1,by lia⟩;rw[DL,OP];by_cases hz:us=[]
  ·subst hz;have l:LP m (N+1) met dep []=M:=by unfold LP;simp;lia
   exact⟨[J t,J (.int m),J (.lst []),J (.int met),J (.int dep)],by rw[l];rfl⟩
  ·have lp:=Ÿ.mpr hz;rw[hG (show (0:Int)<((us.length:Nat):Int) by simp[*])];have c:¬(met+us.length<=60/\dep+1<=12/\us.all (j0 m)=M):=λz=>by
    obtain⟨u,hu⟩:=adS _ hz;have:=ì.mp z.2.2 u hu;rw[Kb (g u hu)] at this;cases this
   obtain⟨B',e⟩:=OQ (t:=t) (met:=met) (dep:=dep) hm hn g c;refine⟨B',?_⟩;rw[OR hz c];show (bI _).turn _=_;rw[e];rfl
 |succ n ih=>
  intro N cJ met dep us hn hN hf XZ g;obtain⟨cJ,rfl⟩:∃f,cJ=f+1:=⟨cJ-1,by lia⟩;obtain⟨N,rfl⟩:∃f,N=f+1:=⟨N-1,by lia⟩;rw[DL,OP];by_cases hz:us=[]
  ·subst hz;have l:LP m (N+1) met dep []=M:=by unfold LP;simp;lia
   exact⟨[J t,J (.int m),J (.lst []),J (.int met),J (.int dep)],by rw[l];rfl⟩
  ·have lp:=Ÿ.mpr hz;rw[hG (show (0:Int)<((us.length:Nat):Int) by simp[*])];by_cases c:met+us.length<=60/\dep+1<=12/\us.all (j0 m)=M
   ·have fm:=ì.mp c.2.2;have gk:∀q∈us.flatMap bC,gj n q=M:=λq hq=>by
     obtain⟨u,hu,hq⟩:=Ϧ.mp hq;exact (Eo (g u hu) (fm u hu)).1 q hq
    obtain⟨B',ih⟩:=ih N cJ (met+us.length) (dep+1) (us.flatMap bC) (by lia) (by simp_all) (by simp_all) c.1 gk;rw[<-MQ hz fm c.2.1] at ih;refine⟨B',?_⟩;rw[<-ih];show (bI _).turn _=_;rw[Ry hm hn g c.1 c.2.1 c.2.2];rfl
   ·obtain⟨B',e⟩:=OQ (t:=t) (met:=met) (dep:=dep) hm hn g c;refine⟨B',?_⟩;rw[OR hz c];show (bI _).turn _=_;rw[e];rfl
theorem Cw {n N:Nat}(hm:m<=1000)(hn:n<=20)(hN:n<N)(g:gj n u=M):dA [u,.int m]=.ok (.bl (aF m N u&&(decide (sz N u<=60)&&decide (hg N u<=12)))):=by
 obtain⟨B',e⟩:=MS (t:=u) hm n N 1000 0 0 [u] hn hN (by lia) (by lia) (λx hx=>by rw[ð.mp hx];exact g);have l:LP m N 0 0 [u]=(aF m N u&&(decide (sz N u<=60)&&decide (hg N u<=12))):=by
  unfold LP;rw[Œ,List.all_nil,ώ];congr 2
  ·simp
  ·refine decide_eq_decide.mpr ⟨λz=>?_,λz=>.inr ?_⟩
   ·rcases z with z|z
    ·cases z
    ·have:mx ([u].map (hg N))=max (hg N u) 0:=rfl;simp_all
   ·have:mx ([u].map (hg N))=max (hg N u) 0:=rfl;simp_all
 rw[l] at e;have z0:(((0:Nat):Int))=0:=rfl;rw[z0] at e;rw[dA,W4];cases c:aF m N u&&(decide (sz N u<=60)&&decide (hg N u<=12)) with
 |true=>
  rw[c,hV rfl] at e;simp only[Pzz,bF,Nat.reduceAdd,Nat.reduceSub,e]
 |false=>
  simp_all[hU,Pzz,bF,Nat.reduceAdd,Nat.reduceSub]
theorem UI:∀a b:List Int,HT.lexLt a b=e_ a b
 | [],[]=>rfl
 | [],_::_=>rfl
 |_::_,[]=>rfl
 |x::xs,y::ys=>by
  unfold HT.lexLt e_;rw[UI xs ys]
theorem Es:∀(l bH:List Int),(bH++l).Nodup->l.foldl PyProof.Rows.step_dedup bH=bH++l
 | [],bH,_=>(ā bH).symm
 |x::l,bH,h=>by
  have hx:¬bH.any (·==x)=M:=λc=>by
   obtain⟨y,h1,h2⟩:=ϥ.mp c;have:=(Ϥ.mp h).2.2 y h1 x Ú;exact this (by simpa using h2)
  rw[List.foldl_cons,Rl hx,Es l (bH++[x]) (by simpa using h)];simp
theorem OS {l:List Int}(h:MF m l):El m (au l)=M:=by
 unfold El au;dsimp only;rw[fR];dsimp only;have e:kN l=l:=Es l [] h.2.2.2;rw[e,beq_self_eq_true,ώ,é];refine⟨?_,ì.mpr λu hu=>?_⟩
 ·cases l with
  |nil=>exact (h.1 rfl).elim
  |cons=>rfl
 ·obtain⟨i,hi,rfl⟩:=á.mp hu;have:=h.2.2.1 i hi;show (decide (0<=i)&&decide (i<=(m:Int)-1))=M;lia
def OT {l:List Int}(h:iI m l):vU (au l) m=M:=by
 unfold vU au;dsimp only;rw[fR];exact hG (J2.mpr h)
theorem W5 {ps:List (List Int)}(h1:ps≠[])(h2:ps.length<=24)(h:∀p∈ps,iI m p):ML (.tup (ps.map au)) m=M:=by
 unfold ML;dsimp only;have:=Ÿ.mpr h1;rw[Æ,hG (by lia),hG h2,ĳ,ĳ];exact ì.mpr λu hu=>by obtain⟨p,hp,rfl⟩:=á.mp hu;exact OT (h p hp)
theorem Ke:∀{l:List (List Int)},SK l->F8 l=M
 | [],_=>rfl
 | [_],_=>rfl
 |a::b::r,h=>by
  obtain⟨h1,h2⟩:=ŏ.mp h;show (HT.lexLt a b&&F8 (b::r))=M;rw[UI,h1 b Ú,Ke h2];rfl
theorem W6 {n:Nat}{ws:List (List Int×U)}(h1:ws≠[])(h2:SK (ws.map (·.1)))(h:∀w∈ws,PW m d n w):J9 n (.tup (ws.map kq))=M:=by
 unfold J9;dsimp only;have e:(ws.map kq).map J8=ws.map (·.1):=by
  rw[ö];refine Ο λw hw=>?_;show J8 (.tup [.tup (w.1.map U.int),w.2])=w.1;unfold J8;dsimp only;rw[fR];rfl
 rw[e,Ke h2,ώ,é];refine⟨?_,ì.mpr λu hu=>?_⟩
 ·simp[*]
 ·obtain⟨w,hw,rfl⟩:=á.mp hu;obtain⟨⟨a,b⟩,_⟩:=h w hw;show F6 n (.tup [.tup (w.1.map U.int),w.2])=M;unfold F6;dsimp only;rw[Æ];simp only[a,beq_self_eq_true,ĳ];exact ì.mpr λu hu=>by
   obtain⟨i,hi,rfl⟩:=á.mp hu;have:=b i hi;show (decide (0<=i)&&decide (i<=9))=M;rw[hG this.1,hG this.2];rfl
theorem F_ {n:Nat}(h:us.length<60)(a:∀u∈us,gj n u=M):gj (n+1) (.tup us)=M:=by
 unfold gj;dsimp only;rw[hG h,Bool.true_or,hG (by lia),ĳ,ĳ];exact ì.mpr a
theorem va {n:Nat}:gj n (.str x)=M:=by cases n<;>rfl
theorem p_ {l:List Int}(h:l.length<=8):gj (k+1) (au l)=M:=F_ (by rw[Æ];lia) λu hu=>by
 obtain⟨i,_,rfl⟩:=á.mp hu;cases k<;>rfl
theorem Rz {n:Nat}{a b c:U}(h1:gj n a=M)(h2:gj n b=M)(h3:gj n c=M):gj (n+1) (.tup [a,b,c])=M:=F_ (by simp) λu hu=>by
 simp only[à,Ő,or_false] at hu;rcases hu with rfl|rfl|rfl
 ·exact h1
 ·exact h2
 ·exact h3
theorem UJ {n:Nat}{a b:U}(h1:gj n a=M)(h2:gj n b=M):gj (n+1) (.tup [a,b])=M:=F_ (by simp) λu hu=>by
 simp only[à,Ő,or_false] at hu;rcases hu with rfl|rfl
 ·exact h1
 ·exact h2
theorem A8 {m:Nat}(h8:m<=8):∀{d:Nat} {u:U},cn m d u->gj (3*d+1) u=M
 |0,_,h=>by cases h
 |d+1,u,h=>by
  rw[show 3*(d+1)+1=3*d+3+1 by lia];unfold cn at h;rcases h with⟨cs,rfl,h⟩|rfl|⟨p,q,rfl,h,t⟩|⟨ps,q,rfl,h,t⟩|⟨pl,ws,rfl,h1,h2,h3,_,h4⟩
  ·exact UJ va (p_ h.2.1)
  ·rfl
  ·exact Rz va (p_ (by rw[i4 h];exact h8)) (Ej (A8 h8 t) (by lia))
  ·exact Rz va (F_ (by rw[Æ];have:=h.2.1;lia) λu hu=>by
    obtain⟨p,hp,rfl⟩:=á.mp hu;exact p_ (by rw[i4 (h.2.2 p hp)];exact h8)) (Ej (A8 h8 t) (by lia))
  ·exact Rz va (p_ h1.2.1) (F_ (by rw[Æ];lia) λu hu=>by
    obtain⟨w,hw,rfl⟩:=á.mp hu;have a:=h4 w hw;exact UJ (p_ (l:=w.1) (by have:=h1.2.1;lia)) (A8 h8 a.2))
theorem OU {B:Nat}:∀{l:List Nat},(∀x∈l,x<=B)->mx l<=B
 | [],_=>Ħ _
 |x::l,h=>by
  have a:=h x Ú;have b:=OU λy hy=>h y (Ý _ hy);grind[max,mx]
def MT (ws:List (List Int×U)):(ws.map kq).map Cv=ws.map (·.2):=by
 rw[ö];rfl
def Kg {pl:List Int}{ws:List (List Int×U)}:bC (.tup [.str "look",au pl,.tup (ws.map kq)])=ws.map (·.2):=by
 rw[<-MT]
 kernel_rfl
theorem Et {m:Nat}(h8:m<=8):∀{d N:Nat} {u:U},cn m d u->d<=N->aF m N u=M/\hg N u<=d
 |0,_,_,h,_=>by cases h
 |d+1,0,_,_,h=>by lia
 |d+1,N+1,u,h,hN=>by
  unfold cn at h;have key:∀{u:U},j0 m u=M->(∀q∈bC u,aF m N q=M/\hg N q<=d)->aF m (N+1) u=M/\hg (N+1) u<=d+1:=λ{u} a b=>by
   refine⟨?_,?_⟩
   ·show (j0 m u&&(bC u).all (aF m N))=M;rw[a,ì.mpr λq hq=>(b q hq).1];rfl
   ·show 1+mx ((bC u).map (hg N))<=d+1;have:=OU (B:=d) (l:=(bC u).map (hg N)) λx hx=>by obtain⟨q,hq,rfl⟩:=á.mp hx;exact (b q hq).2
    lia
  rcases h with⟨cs,rfl,h⟩|rfl|⟨p,q,rfl,h,t⟩|⟨ps,q,rfl,h,t⟩|⟨pl,ws,rfl,h1,h2,h3,h5,h4⟩
  ·refine key ?_ λq hq=>by cases hq
   rw[show j0 m (.tup [.str "end",au cs])=El m (au cs) by kernel_rfl];exact OS h
  ·exact key (by kernel_rfl) λq hq=>by cases hq
  ·refine key ?_ λq' hq=>?_
   ·rw[show j0 m (.tup [.str "lay",au p,q])=vU (au p) m by kernel_rfl];exact OT h
   ·rw[show bC (.tup [.str "lay",au p,q])=[q] by kernel_rfl] at hq;rw[ð.mp hq];exact Et h8 t (by lia)
  ·refine key ?_ λq' hq=>?_
   ·rw[show j0 m (.tup [.str "mix",.tup (ps.map au),q])=ML (.tup (ps.map au)) m by kernel_rfl];exact W5 h.1 h.2.1 h.2.2
   ·rw[show bC (.tup [.str "mix",.tup (ps.map au),q])=[q] by kernel_rfl] at hq;rw[ð.mp hq];exact Et h8 t (by lia)
  ·refine key ?_ λq' hq=>?_
   ·rw[show j0 m (.tup [.str "look",au pl,.tup (ws.map kq)])=(El m (au pl)&&J9 (J6 (au pl)) (.tup (ws.map kq))) by kernel_rfl];have l:J6 (au pl)=pl.length:=Æ ..;rw[OS h1,l,W6 h2 h5 h4];rfl
   ·rw[Kg] at hq;obtain⟨w,hw,rfl⟩:=á.mp hq;exact Et h8 (h4 w hw).2 (by lia)
theorem UK (h8:m<=8)(hd:d<=5)(h:cn m d u)(hz:sz 20 u<=60):dA [u,.int m]=.ok (.bl M):=by
 have a:=Et h8 (N:=20) h (by lia);rw[Cw (n:=3*d+1) (N:=20) (by lia) (by lia) (by lia) (A8 h8 h),a.1,hG hz,hG (by lia)];rfl
def UL:(Ü "end"==Ü "end")=M/\(Ü "end"==Ü "again")=Y/\(Ü "end"==Ü "lay")=Y/\(Ü "end"==Ü "mix")=Y/\(Ü "end"==Ü "look")=Y/\(Ü "again"==Ü "end")=Y/\(Ü "again"==Ü "again")=M/\(Ü "again"==Ü "lay")=Y/\(Ü "again"==Ü "mix")=Y/\(Ü "again"==Ü "look")=Y/\(Ü "lay"==Ü "end")=Y/\(Ü "lay"==Ü "again")=Y/\(Ü "lay"==Ü "lay")=M/\(Ü "lay"==Ü "mix")=Y/\(Ü "lay"==Ü "look")=Y/\(Ü "mix"==Ü "end")=Y/\(Ü "mix"==Ü "again")=Y/\(Ü "mix"==Ü "lay")=Y/\(Ü "mix"==Ü "mix")=M/\(Ü "mix"==Ü "look")=Y/\(Ü "look"==Ü "end")=Y/\(Ü "look"==Ü "again")=Y/\(Ü "look"==Ü "lay")=Y/\(Ü "look"==Ü "mix")=Y/\(Ü "look"==Ü "look")=M:=by decide
def W7 {f:Bool->Bool}(hx:iN u=J dx)(hs:ij us=J ds)(hd:∀d∈ds,du d<=30):KZ f u (.tup us)=.ok (.bl (f (ds.any λd=>i7 d dx))):=by
 simp_all[KZ,B9,bind,ij,hV,hG]
theorem A9 {a b c:Str}:KZ id (.str a) (.tup [.str b,.str c])=.ok (.bl (b==a||c==a)):=by
 rw[W7 (dx:=.str a) (ds:=[.str b,.str c]) (by simp[iN]) (by simp[ij,iN]) (by
  intro d h;simp only[à,Ő,or_false] at h;rcases h with rfl|rfl<;>(unfold du;lia))]
 simp[i7]
def MU (n:Nat):cR .S 1 (eW n)=eX n:=rfl
theorem Eu:∀l:List Nat,(l.map λx:Nat=>(x:Int)).sum=(l.sum:Int)
 | []=>rfl
 |x::l=>by rw[å,Υ,Υ,Eu l];lia
theorem sE {m:Nat}:∀{d n N:Nat} {u:U},cn m d u->d<=n->d<=N->d<=6->eX n [u]=.ok (.int (sz N u))/\sz N u<=10 ^ d
 |0,_,_,_,h,_,_,_=>by cases h
 |d+1,0,_,_,_,h,_,_=>by lia
 |d+1,n+1,0,_,_,_,h,_=>by lia
 |d+1,n+1,N+1,u,h,hn,hN,hd=>by
  have p1:1<=10 ^ d:=Nat.one_le_pow _ _ (by decide);have p2:10 ^ (d+1)=10 ^ d*10:=Ņ ..;have p3:10 ^ d<=100000:=ä (Ω (by decide) (show d<=5 by lia)) (by decide);have l2:(2:Nat)<=Â:=by decide
  rw[eX,eW,MU,p2];unfold cn at h;rcases h with⟨cs,rfl,h⟩|rfl|⟨p,q,rfl,h,t⟩|⟨ps,q,rfl,h,t⟩|⟨pl,ws,rfl,h1,h2,h3,h5,h4⟩
  ·rw[show sz (N+1) (.tup [.str "end",au cs])=1 by kernel_rfl];exact⟨by rfl,by lia⟩
  ·rw[show sz (N+1) (.tup [.str "again"])=1 by kernel_rfl];exact⟨by rfl,by lia⟩
  ·obtain⟨e,z⟩:=sE (n:=n) (N:=N) t (by lia) (by lia) (by lia);have k:sz (N+1) (.tup [.str "lay",au p,q])=1+sz N q:=by
    rfl
   rw[k,Int.natCast_add];exact⟨by simp only[Pzz,bF,Nat.reduceAdd,Nat.reduceSub,g6,MO,A9,UL,Bool.true_or,gQ,id,e,l2];rfl,by lia⟩
  ·obtain⟨e,z⟩:=sE (n:=n) (N:=N) t (by lia) (by lia) (by lia);have k:sz (N+1) (.tup [.str "mix",.tup (ps.map au),q])=1+sz N q:=by
    rfl
   rw[k,Int.natCast_add];exact⟨by simp only[Pzz,bF,Nat.reduceAdd,Nat.reduceSub,g6,MO,A9,UL,Bool.or_true,gQ,id,e,l2];rfl,by lia⟩
  ·have ih:=λw hw=>sE (n:=n) (N:=N) (h4 w hw).2 (by lia) (by lia) (by lia);have e:iS (j8 [Z] (cx 0) bK (dz 1 (eX n) (ae (aI c7 (af 0) (gC (.int 1))) ao)) [J (.tup [.str "look",au pl,.tup (ws.map kq)])]) (ws.map kq)=.ok ((((ws.map (·.2)).map (sz N)).map λx:Nat=>(x:Int)).map U.int):=by
    rw[ö,ö,ö];refine eH λw hw=>?_;unfold kq;simp only[Pzz,bF,Nat.reduceAdd,Nat.reduceSub,l_,(ih w hw).1];rfl
   have k:sz (N+1) (.tup [.str "look",au pl,.tup (ws.map kq)])=1+((ws.map (·.2)).map (sz N)).sum:=by
    show 1+((bC _).map (sz N)).sum=_;rw[Kg]
   rw[k];have zs:∀z∈(ws.map (·.2)).map (sz N),z<=10 ^ d:=λz hz=>by
    rw[ö] at hz;obtain⟨w,hw,rfl⟩:=á.mp hz;exact (ih w hw).2
   have ls:((ws.map (·.2)).map (sz N)).length<=5:=by rw[Æ,Æ];exact h3
   generalize (ws.map (·.2)).map (sz N)=zz at e zs ls;have sb:=Ep zs;have sb2:zz.length*10 ^ d<=5*10 ^ d:=aeP _ ls;have sm:uz (zz.map λx:Nat=>(x:Int))=M:=by
    unfold uz;rw[é];exact⟨hG (by rw[Æ];lia),ì.mpr λz h=>hG (by
     obtain⟨x,hx,rfl⟩:=á.mp h;have:=zs x hx;(simp;lia))⟩
   have ps:Ag [.lst ((zz.map λx:Nat=>(x:Int)).map U.int)]=.ok (.int zz.sum):=by
    unfold Ag;dsimp only;rw[fR];dsimp only;rw[hV sm,Eu]
   rw[Int.natCast_add];exact⟨by simp only[Pzz,bF,Nat.reduceAdd,Nat.reduceSub,g6,MO,A9,UL,Bool.or_self,gQ,id,e,ps,l2];rfl,by lia⟩
theorem Kh {s:U}{b:Bool}(hb:F0 base m)(iQ:∀b∈base,F1 b)(hr:Rg base rows)(hc:7<=m->rows.length<=cap ((k:Int)+1))(hk:k<=3)(hs:kr s) :
  ∃u s',fx [s,.lst (rows.map au),.int ((k:Int)+1),.bl b]=.ok (u,s')/\cn m (k+1) u/\sz 20 u<=60/\kr s':=by
 obtain⟨rows',e1,hr',_⟩:=ny hb hr hc;obtain⟨u,s1,e2,hu,jA⟩:=u5 hb iQ k (7-2*k) rows' s b hr' hs;rw[show 2*k+(7-2*k)+1=8 by lia] at e2;obtain⟨e3,_⟩:=sE (n:=20) (N:=20) hu (by lia) (by lia) (by lia);by_cases c:((sz 20 u:Nat):Int)<61
 ·refine⟨u,s1,?_,hu,by lia,jA⟩;simp only[fx,gK,Pzz,bF,Nat.reduceAdd,Nat.reduceSub,e1,e2,e3,hG c]
 ·refine⟨.tup [.str "end",au [0]],s1,?_,uY ⟨by simp,by decide,λi hi=>by have:=hb.2.1;rw[ð.mp hi];(simp;lia),by simp⟩,by rw[show sz 20 (.tup [.str "end",au [0]])=1 by kernel_rfl];decide,jA⟩;simp only[fx,gK,Pzz,bF,Nat.reduceAdd,Nat.reduceSub,e1,e2,e3,hJ c,fD]
end Hc
section
set_option maxHeartbeats 400000
namespace Hc
open PySem L2
noncomputable def yQ (c:Nat)(z:List Nat):List Nat->List Nat
 | []=>[]
 |k::r=>(if k=c then z else [k])++yQ c z r
theorem o3 (c:Nat)(z:List Nat):∀a b:List Nat,yQ c z (a++b)=yQ c z a++yQ c z b
 | [],_=>rfl
 |k::r,b=>by
  show _++yQ c z (r++b)=_++yQ c z r++_;rw[o3 c z r b,õ]
theorem vb (c:Nat)(z:List Nat):∀l:List Nat,c∉l->yQ c z l=l
 | [],_=>rfl
 |k::r,h=>by
  unfold yQ;rw[hU (λe:k=c=>h (e▸Ú ..)),vb c z r λm=>h (Ý _ m)];rfl
theorem A_ (c:Nat)(z:Str):∀parts:List Str,(∀p∈parts,c∉p.cps.toList)->yQ c z.cps.toList (Ă ⟨#[c]⟩ parts).cps.toList=(Ă z parts).cps.toList
 | [],_=>rfl
 | [p],h=>vb c _ _ (h p (ð.mpr rfl))
 |p::q::r,h=>by
  have ih:=A_ c z (q::r) λa ha=>h a (Ý _ ha);show yQ c z.cps.toList (p++⟨#[c]⟩++Ă ⟨#[c]⟩ (q::r)).cps.toList=(p++z++Ă z (q::r)).cps.toList;simp only[Str.cps_append,Ĳ];rw[o3,o3,ih,vb c _ _ (h p (Ú ..))];show p.cps.toList++yQ c z.cps.toList [c]++_=_;unfold yQ;rw[hV rfl];simp[yQ]
def yE (x z:Str)(c:Nat):(η x ⟨#[c]⟩ z).cps.toList=yQ c z.cps.toList x.cps.toList:=by
 rw[StrLaws.replace_one,<-A_ c z _ (StrLaws.split_free x c),StrLaws.join_split]
def rT (x:Str):List Nat:=yQ 41 [32,41,32] (yQ 40 [32,40,32] x.cps.toList)
def vc (a b:Str):rT (a++b)=rT a++rT b:=by
 unfold rT;rw[Str.cps_append,Ĳ,o3,o3]
def RA (x:Str):(Ec x).cps.toList=rT x:=by
 unfold Ec OA rT;rw[show ((")":String):Str)=⟨#[41]⟩ by rfl,show (("(":String):Str)=⟨#[40]⟩ by rfl,yE,yE];rfl
noncomputable abbrev Ga (st:KWd.St)(l:List Nat):KWd.St:=l.foldl KWd.step st
def Tz (x:Str)(ts:List Str):Prop:=∀ws,Ga (ws,č) (rT x++[32])=(ws++ts,č)
def nA (st:KWd.St)(a b:List Nat):Ga st (a++b)=Ga (Ga st a) b:=List.foldl_append
def Ba (ws:List Str):Ga (ws,č) [32]=(ws,č):=by kernel_rfl
def Tz.cat {a b:Str}{us:List Str}(h1:Tz a ts)(h2:Tz b us):Tz (a++" "++b) (ts++us):=λws=>by
 rw[vc,vc,show rT ((" ":String):Str)=[32] by rfl,õ,nA,h1,h2,õ]
def Tz.nil:Tz "" []:=λws=>by
 rw[show rT (("":String):Str)=[] by rfl,ā];exact Ba ws
def Tz.brk {a b:Str}{us:List Str}(h1:Tz a ts)(h2:Tz b us):Tz (a++" ("++b++")") (ts++("(":Str)::(us++([")"]:List Str))):=λws=>by
 have e1:∀ws:List Str,Ga (ws,č) [32,40,32]=(ws++(["("]:List Str),č):=λws=>by kernel_rfl
 have e2:∀ws:List Str,Ga (ws,č) [41,32]=(ws++([")"]:List Str),č):=λws=>by kernel_rfl
 rw[vc,vc,vc,show rT ((" (":String):Str)=[32]++[32,40,32] by rfl,show rT ((")":String):Str)=[32]++[41,32] by rfl];rw[show rT a++([32]++[32,40,32])++rT b++([32]++[41,32])++[32]=(rT a++[32])++([32,40,32]++((rT b++[32])++([41,32]++[32]))) by grind];rw[nA,h1,nA,e1,nA,h2,nA,e2,Ba];simp
theorem Tz.toks (h:Tz x ts):my x=ts:=by
 unfold my;rw[KWd.words_scan];unfold KWd.scan;rw[RA];show KWd.fin (Ga ([],č) (rT x))=ts;have h:=h [];rw[nA,Τ] at h;generalize Ga ([],č) (rT x)=st at h |-;obtain⟨ws,r⟩:=st;have h:KWd.step (ws,r) 32=_:=h;unfold KWd.step at h;rw[hV (by rfl)] at h;unfold KWd.fin;split at h
 ·rename_i c;rw[hV c];exact congrArg Prod.fst h
 ·rename_i c;rw[hU c];exact congrArg Prod.fst h
theorem W8 {n:Int}(h:0<=n/\n<=9):n=0\/n=1\/n=2\/n=3\/n=4\/n=5\/n=6\/n=7\/n=8\/n=9:=by lia
theorem Tz.word (h:(Ga ([],č) (rT x++[32]))=([x],č))(k:rT x=x.cps.toList)(ns:x.cps.toList.all (λc=> !ae_ c)=M)(ne:x.length≠0):Tz x [x]:=λws=>by
 have key:∀(l:List Nat) (r:Str),l.all (λc=> !ae_ c)=M->Ga (ws,r) l=(ws,r++⟨l.toArray⟩):=λl=>by
  induction l with
  |nil=>intro r _;rfl
  |cons c l ih=>
   intro r hl;rw[Œ,é] at hl;show Ga (KWd.step (ws,r) c) l=_;unfold KWd.step;rw[hU (by lia),ih _ hl.2,Str.append_assoc];refine congrArg (λz=>(ws,r++z)) (Str.ext' ?_);rw[Str.cps_append];simp
 rw[nA,k,key _ _ ns,Χ];show KWd.step (ws,(⟨x.cps.toList.toArray⟩:Str)) 32=_;rw[show (⟨x.cps.toList.toArray⟩:Str)=x from Str.ext' (by simp)];unfold KWd.step;rw[hV (by decide+kernel),hU ne]
theorem Tz.dg {n:Int}(h:0<=n/\n<=9):Tz (dg n) [dg n]:=by
 rcases W8 h with rfl|rfl|rfl|rfl|rfl|rfl|rfl|rfl|rfl|rfl<;>exact Tz.word (by decide+kernel) (by decide+kernel) (by decide+kernel) (by decide+kernel)
end Hc
end
section
set_option maxHeartbeats 400000
namespace Hc
open PySem L2
theorem RB {n:Int}(h:0<=n/\n<=9):uJ [.str (dg n)]=.ok (.bl M):=by
 rcases W8 h with rfl|rfl|rfl|rfl|rfl|rfl|rfl|rfl|rfl|rfl<;>kernel_rfl
def RC:∀a b:Fin 10,dg (a.val:Int)=dg (b.val:Int)->a=b:=by decide+kernel
theorem RE {a b:Int}(ha:0<=a/\a<=9)(hb:0<=b/\b<=9)(e:dg a=dg b):a=b:=by
 have:=RC ⟨a.toNat,by (simp;lia)⟩ ⟨b.toNat,by (simp;lia)⟩ (by rw[show ((⟨a.toNat,by (simp;lia)⟩:Fin 10).val:Int)=a by simp;lia,show ((⟨b.toNat,by (simp;lia)⟩:Fin 10).val:Int)=b by simp;lia];exact e);(simp at *;lia)
theorem Ki {as bs:List Int}(hb:∀n∈bs,0<=n/\n<=9)(kb:∀(k:Nat) (n:Int),bs[k]? = J n->cm ws (i+k)=dg n)(ea:uJ [.str (cm ws (i+as.length))]=.ok (.bl Y)):bs.length<=as.length:=by
 by_cases h:as.length<bs.length
 ·have e:=kb as.length _ (Ø h);rw[e,RB (hb _ (ą h))] at ea;cases ea
 ·lia
theorem lZ {rs VY:List V}{u':U}{j':Nat}:Bl rs ws i u j->Bl VY ws i u' j'->u=u'/\j=j':=fun⟨as,ha,la,ka,ea,eu,ej⟩ ⟨bs,hb,lb,kb,eb,eu',ej'⟩=>by
 have l1:=Ki hb kb ea;have l2:=Ki ha ka eb;have e:as=bs:=by
  refine List.ext_getElem (by lia) λk h1 h2=>?_;refine RE (ha _ (ą h1)) (hb _ (ą h2)) ?_;rw[<-ka k _ (Ø h1),<-kb k _ (Ø h2)]
 lia
theorem Ew (hI:∀i u u' j j',I i u j->I i u' j'->u=u'/\j=j'){R0:List U}{j':Nat}(h:Bm ws x I i us j):Bm ws x I i R0 j'->us=R0/\j=j':=by
 induction h generalizing R0 j' with
 |one a n=>
  intro h';cases h' with
  |one b _=>obtain⟨e,f⟩:=hI _ _ _ _ _ a b;exact⟨by rw[e],f⟩
  |more b m _=>obtain⟨e,f⟩:=hI _ _ _ _ _ a b;subst f;exact (n m).elim
 |more a m _ ih=>
  intro h';cases h' with
  |one b n=>obtain⟨e,f⟩:=hI _ _ _ _ _ a b;subst f;exact (n m).elim
  |more b _ t=>
   obtain⟨e,f⟩:=hI _ _ _ _ _ a b;subst f;obtain⟨e2,f2⟩:=ih t;exact⟨by rw[e,e2],f2⟩
theorem MV {rs VY:List V}{u':U}{j':Nat}:Up rs ws i u j->Up VY ws i u' j'->u=u'/\j=j':=fun⟨us,h,_,e⟩ ⟨R0,h',_,e'⟩=>by
 obtain⟨a,b⟩:=Ew (λi u u' j j' h h'=>lZ h.1 h'.1) h h';exact⟨by rw[e,e',a],b⟩
def UM (RP:RR):Prop:=∀rs ws i u u' j j',RP rs ws i u j->RP rs ws i u' j'->u=u'/\j=j'
theorem MW (h:UM RP):UM (QY RP):=λrs ws i u u' j j' ⟨d,v,j1,p,e,a,_,_,b,_,eu⟩ ⟨d',v',j1',p',e',a',_,_,b',_,eu'⟩=>by
 obtain⟨x,y⟩:=lZ a a';subst e x y;cases e';obtain⟨x,y⟩:=h _ _ _ _ _ _ _ b b';exact⟨by rw[eu,eu',x],y⟩
theorem MX (h:UM RP):UM (VE RP):=λrs ws i u u' j j' ⟨d,us,j2,e,_,a,_,_,ej,eu⟩ ⟨d',R0,j2',e',_,a',_,_,ej',eu'⟩=>by
 subst e;cases e';obtain⟨x,y⟩:=Ew (λi u u' j j' k k'=>MW h _ _ _ _ _ _ _ k.1 k'.1) a a';lia
theorem Ex:∀n,UM (Gn n)
 |0=>λ_ _ _ _ _ _ _ h=>h.elim
 |n+1=>λrs ws i u u' j j' ⟨d,e,_,h⟩ ⟨d',e',_,h'⟩=>by
  have ih:=Ex n;subst e;cases e';have no:∀{x y:Str},cm ws i=x->cm ws i=y->(x==y)=Y->False:=λa b c=>by rw[<-a,<-b] at c;simp at c
  rcases h with⟨c,a,b⟩|⟨c,v,a,_,b⟩|⟨c,v,j1,p,a,_,b,_,k⟩|⟨c,v,j1,p,a,_,_,b,_,k⟩<;>rcases h' with⟨c',a',b'⟩|⟨c',v',a',_,b'⟩|⟨c',v',j1',p',a',_,b',_,k'⟩|⟨c',v',j1',p',a',_,_,b',_,k'⟩
  ·exact⟨a.trans a'.symm,b.trans b'.symm⟩
  ·exact (no c c' (by decide+kernel)).elim
  ·exact (no c c' (by decide+kernel)).elim
  ·rcases c' with c'|c'<;>exact (no c c' (by decide+kernel)).elim
  ·exact (no c c' (by decide+kernel)).elim
  ·obtain⟨x,y⟩:=lZ a a';exact⟨by rw[b,b',x],y⟩
  ·exact (no c c' (by decide+kernel)).elim
  ·rcases c' with c'|c'<;>exact (no c c' (by decide+kernel)).elim
  ·exact (no c c' (by decide+kernel)).elim
  ·exact (no c c' (by decide+kernel)).elim
  ·obtain⟨x,y⟩:=lZ a a';subst x y;obtain⟨x,y⟩:=MX ih _ _ _ _ _ _ _ b b';exact⟨by rw[k,k',x],y⟩
  ·rcases c' with c'|c'<;>exact (no c c' (by decide+kernel)).elim
  ·rcases c with c|c<;>exact (no c c' (by decide+kernel)).elim
  ·rcases c with c|c<;>exact (no c c' (by decide+kernel)).elim
  ·rcases c with c|c<;>exact (no c c' (by decide+kernel)).elim
  ·have:v=v'/\j1=j1':=by
    by_cases z:cm ws i="lay"
    ·rw[hV z] at a a';exact lZ a a'
    ·rw[hU z] at a a';exact MV a a'
   obtain⟨x,y⟩:=this;subst x y;obtain⟨x,y⟩:=ih _ _ _ _ _ _ _ b b';exact⟨by rw[k,k',x],y⟩
end Hc
end
section
set_option maxHeartbeats 400000
namespace Hc
open PySem L2
def mJ (l:List Int):Prop:=(∀n∈l,0<=n/\n<=9)/\l.length<=8
def bJ (l:List Int):Str:=Ă " " (l.map dg)
def qa:List (List Int)->List Str
 | []=>[]
 | [p]=>p.map dg
 |p::q::r=>p.map dg++("/":Str)::qa (q::r)
mutual
inductive TP:Nat->U->Str->List Str->Prop
 |again {n:Nat}:TP (n+1) (.tup [.str "again"]) "again" ["again"]
 |fin {n:Nat} {cs:List Int}:mJ cs->TP (n+1) (.tup [.str "end",au cs]) (("end ":Str)++bJ cs) (("end":Str)::cs.map dg)
 |lay {n:Nat} {p:List Int} {q:U} {x:Str} {ts:List Str}:mJ p->TP n q x ts->TP (n+1) (.tup [.str "lay",au p,q]) (("lay ":Str)++bJ p++" : "++x) (("lay":Str)::(p.map dg++(":":Str)::ts))
 |mix {n:Nat} {ps:List (List Int)} {q:U} {x:Str} {ts:List Str}:ps≠[]->ps.length<=24->(∀p∈ps,mJ p)->TP n q x ts->TP (n+1) (.tup [.str "mix",.tup (ps.map au),q]) (("mix ":Str)++Ă " / " (ps.map bJ)++" : "++x) (("mix":Str)::(qa ps++(":":Str)::ts))
 |look {n:Nat} {pl:List Int} {us:List U} {xs ts:List Str}:mJ pl->us.length<=5->TW n us xs ts->TP (n+1) (.tup [.str "look",au pl,.tup us]) (("look ":Str)++bJ pl++" ("++Ă " ; " xs++")") (("look":Str)::(pl.map dg++("(":Str)::(ts++([")"]:List Str))))
inductive TW:Nat->List U->List Str->List Str->Prop
 |one {n:Nat} {v:List Int} {q:U} {x:Str} {ts:List Str}:mJ v->TP n q x ts->TW n [.tup [au v,q]] [bJ v++" : "++x] (v.map dg++(":":Str)::ts)
 |more {n:Nat} {v:List Int} {q:U} {x:Str} {ts:List Str} {us:List U} {xs rs:List Str}:mJ v->TP n q x ts->TW n us xs rs->TW n (.tup [au v,q]::us) ((bJ v++" : "++x)::xs) (v.map dg++(":":Str)::(ts++(";":Str)::rs))
end
def At (ws:List Str)(i:Nat)(ts:List Str):Prop:=∀k x,ts[k]? = J x->ws[i+k]? = J x
def At.hd (h:At ws i (x::ts)):cm ws i=x:=by
 have:=h 0 x rfl;simp_all[cm,Nat.add_zero]
theorem At.tl (h:At ws i (x::ts)):At ws (i+1) ts:=λk y e=>by
 have:=h (k+1) y (by rw[ν];exact e)
 lia
theorem At.l {as bs:List Str}(h:At ws i (as++bs)):At ws i as:=λk y e=>h k y (by
 obtain⟨z,_⟩:=ċ.mp e;rw[Ŵ z];exact e)
theorem At.r {as bs:List Str}(h:At ws i (as++bs)):At ws (i+as.length) bs:=λk y e=>by
 have:=h (as.length+k) y (by rw[Š (by lia),Ψ];exact e)
 rwa [ϋ]
def o5 (x:Str):Prop:=uJ [.str x]=.ok (.bl Y)
theorem fy:∀l:List Int,gX (au l)=M:=λl=>by
 show jR (l.map .int)=M
 induction l with
 |nil=>rfl
 |cons a l ih=>show (gX (.int a)&&jR (l.map .int))=M;rw[ih];rfl
theorem lq {l:List Int}(h:mJ l)(a:At ws i (l.map dg))(hn:o5 (cm ws (i+l.length)))(e:j=i+l.length):Bl [] ws i (au l) j:=
 ⟨l,h.1,by have:=h.2;lia,λk n q=>by
  have:=a k (dg n) (by rw[ă,q];rfl);unfold cm;rw[this];rfl,hn,rfl,e⟩
def n1:o5 ":":=by unfold o5;kernel_rfl
def n2:o5 "/":=by unfold o5;kernel_rfl
def n3:o5 "(":=by unfold o5;kernel_rfl
def n4:o5 ";":=by unfold o5;kernel_rfl
def n5:o5 ")":=by unfold o5;kernel_rfl
def n6:o5 "":=by rfl
theorem Kj {ws:List Str}:∀{ps:List (List Int)} {i:Nat},ps≠[]->(∀p∈ps,mJ p)->At ws i (qa ps)->cm ws (i+(qa ps).length)=":"->Bm ws "/" (λi u j=>Bl [] ws i u j/\gX u=M) i (ps.map au) (i+(qa ps).length)
 | [],_,h,_,_,_=>(h rfl).elim
 | [p],i,_,h,a,e=>by
  have l:(qa [p]).length=p.length:=Æ ..;rw[l] at e |-;exact .one ⟨lq (h p (by simp)) a (by rw[e];exact n1) rfl,fy p⟩ (by rw[e];decide+kernel)
 |p::q::r,i,_,h,a,e=>by
  have a:At ws i (p.map dg++("/":Str)::qa (q::r)):=a;have l:(qa (p::q::r)).length=p.length+1+(qa (q::r)).length:=by
   show (p.map dg++("/":Str)::qa (q::r)).length=_;rw[Þ,Æ,Ò];lia
  have c:=a.r;rw[Æ] at c;rw[l,show i+(p.length+1+(qa (q::r)).length)=i+p.length+1+(qa (q::r)).length by lia] at e |-;exact .more ⟨lq (h p (by simp)) a.l (by rw[c.hd];exact n2) rfl,fy p⟩ c.hd (Kj (by simp) (λx hx=>h x (Ý _ hx)) c.tl e)
theorem yF:∀ps:List (List Int),gX (.tup (ps.map au))=M
 | []=>rfl
 |p::ps=>by
  have:=yF ps;show (gX (au p)&&jR (ps.map au))=M;rw[fy];exact this
def W9 {a b c:U}(h1:gX a=M)(h2:gX b=M)(h3:gX c=M):gX (.tup [a,b,c])=M:=by
 show (gX a&&(gX b&&(gX c&&M)))=M;rw[h1,h2,h3];rfl
def W_ {a b:U}(h1:gX a=M)(h2:gX b=M):gX (.tup [a,b])=M:=by
 show (gX a&&(gX b&&M))=M;rw[h1,h2];rfl
def Xa (x:Str):Prop:=x=""\/x=";"\/x=")"
theorem Xa.n (h:Xa x):o5 x:=by rcases h with rfl|rfl|rfl;exact n6;exact n4;exact n5
mutual
theorem TP.read {n:Nat}{u:U}{x:Str}{ts:List Str}:TP n u x ts->∀{d:Int} {ws:List Str} {i j:Nat},d+n<=13->At ws i ts->Xa (cm ws j)->j=i+ts.length->Gn n [.int d] ws i u j/\gX u=M
 | .again,d,ws,i,j,hd,a,_,e=>⟨⟨d,rfl,by (simp at *;lia),.inl ⟨a.hd,rfl,e⟩⟩,rfl⟩
 | .fin (cs:=cs) h,d,ws,i,j,hd,a,f,e=>by
  rw[Ò,Æ] at e;exact⟨⟨d,rfl,by (simp at *;lia),.inr (.inl ⟨a.hd,_,lq h a.tl (by rw[show i+1+cs.length=j by lia];exact f.n) (by lia),fy cs,rfl⟩)⟩,W_ rfl (fy cs)⟩
 | .lay (p:=p) (ts:=ts) h t,d,ws,i,j,hd,a,f,e=>by
  rw[Ò,Þ,Ò,Æ] at e;have c:=a.tl.r;rw[Æ] at c;obtain⟨b,k⟩:=TP.read t (d:=d+1) (by (simp at *;lia)) c.tl f (by lia);refine⟨⟨d,rfl,by (simp at *;lia),.inr (.inr (.inr ⟨.inl a.hd,_,_,_,?_,fy p,c.hd,b,k,by rw[a.hd]⟩))⟩,W9 rfl (fy p) k⟩;rw[hV a.hd];exact lq h a.tl.l (by rw[c.hd];exact n1) rfl
 | .mix (ps:=ps) (ts:=ts) h1 h2 h3 t,d,ws,i,j,hd,a,f,e=>by
  rw[Ò,Þ,Ò] at e;have c:=a.tl.r;obtain⟨b,k⟩:=TP.read t (d:=d+1) (by (simp at *;lia)) c.tl f (by lia);refine⟨⟨d,rfl,by (simp at *;lia),.inr (.inr (.inr ⟨.inr a.hd,_,_,_,?_,yF ps,c.hd,b,k,by rw[a.hd]⟩))⟩,W9 rfl (yF ps) k⟩;rw[hU (by rw[a.hd];decide+kernel)];exact⟨_,Kj h1 h3 a.tl.l c.hd,by rw[Æ];lia,rfl⟩
 | .look (pl:=pl) (us:=us) (ts:=ts) h1 h2 t,d,ws,i,j,hd,a,f,e=>by
  rw[Ò,Þ,Ò,Þ,Æ] at e;have e:j=i+1+pl.length+1+ts.length+1:=by rw[e];simp;lia
  have c:=a.tl.r;rw[Æ] at c;obtain⟨b,k⟩:=TW.read t (d:=d+1) (by (simp at *;lia)) c.tl.l c.tl.r.hd;refine⟨⟨d,rfl,by (simp at *;lia),.inr (.inr (.inl ⟨a.hd,_,_,_,lq h1 a.tl.l (by rw[c.hd];exact n3) rfl,fy pl,⟨_,us,_,rfl,c.hd,b,by lia,c.tl.r.hd,e,rfl⟩,k,rfl⟩))⟩,W9 rfl (fy pl) k⟩
theorem TW.read {n:Nat}{us:List U}{xs ts:List Str}:TW n us xs ts->∀{d:Int} {ws:List Str} {i:Nat},d+n<=13->At ws i ts->cm ws (i+ts.length)=")"->Bm ws ";" (λi u j=>QY (Gn n) [.int d] ws i u j/\gX u=M) i us (i+ts.length)/\gX (.tup us)=M
 | .one (v:=v) (ts:=ts) h t,d,ws,i,hd,a,e=>by
  have c:=a.r;rw[Æ] at c;rw[Þ,Ò,Æ] at e |-;obtain⟨b,k⟩:=TP.read t (d:=d) hd c.tl (.inr (.inr e)) (by lia);have z:=W_ (fy v) k;exact⟨.one ⟨⟨d,_,_,_,rfl,lq h a.l (by rw[c.hd];exact n1) rfl,fy v,c.hd,b,k,rfl⟩,z⟩ (by rw[e];decide+kernel),by show (gX _&&M)=M;rw[z];rfl⟩
 | .more (v:=v) (ts:=ts) (rs:=rs) h t r,d,ws,i,hd,a,e=>by
  have c:=a.r;rw[Æ] at c;rw[Þ,Ò,Þ,Ò,Æ] at e |-;have g:=c.tl.r;obtain⟨b,k⟩:=TP.read t (d:=d) hd c.tl.l (.inr (.inl g.hd)) rfl;have q:i+(v.length+(ts.length+(rs.length+1)+1))=i+v.length+1+ts.length+1+rs.length:=by lia
  rw[q] at e |-;obtain⟨b',k'⟩:=TW.read r (d:=d) hd g.tl e;have z:=W_ (fy v) k;exact⟨.more ⟨⟨d,_,_,_,rfl,lq h a.l (by rw[c.hd];exact n1) rfl,fy v,c.hd,b,k,rfl⟩,z⟩ g.hd b',by show (gX _&&jR _)=M;rw[z];exact k'⟩
end
end Hc
end
section
set_option maxHeartbeats 400000
namespace Hc
open PySem L2
def Tz.mid {a b s w:Str}{us:List Str}(e:s=((" ":String):Str)++w++" ")(hw:Tz w [w])(h1:Tz a ts)(h2:Tz b us):Tz (a++s++b) (ts++w::us):=by
 rw[e,show a++(((" ":String):Str)++w++" ")++b=a++" "++(w++" "++b) by simp only[Str.append_assoc]];exact h1.cat (hw.cat h2)
def Tz.pre {b s w:Str}{us:List Str}(e:s=w++((" ":String):Str))(hw:Tz w [w])(h2:Tz b us):Tz (s++b) (w::us):=by
 rw[e];exact hw.cat h2
theorem gT:∀{l:List Int},(∀n∈l,0<=n/\n<=9)->Tz (bJ l) (l.map dg)
 | [],_=>Tz.nil
 | [a],h=>Tz.dg (h a (by simp))
 |a::b::r,h=>(Tz.dg (h a (by simp))).cat (gT λn hn=>h n (Ý _ hn))
def vd (k:(Ga ([],č) (rT x++[32])==([x],č))&&(rT x==x.cps.toList)&&x.cps.toList.all (λc=> !ae_ c)&&(x.length != 0)):Tz x [x]:=by
 simp only[é,beq_iff_eq,bne_iff_ne] at k;exact Tz.word k.1.1.1 k.1.1.2 k.1.2 k.2
theorem Kk:∀{ps:List (List Int)},(∀p∈ps,mJ p)->Tz (Ă " / " (ps.map bJ)) (qa ps)
 | [],_=>Tz.nil
 | [p],h=>gT (h p (by simp)).1
 |p::q::r,h=>Tz.mid (by rfl) (vd (by rfl)) (gT (h p (by simp)).1) (Kk λn hn=>h n (Ý _ hn))
def TW.ne {n:Nat}{xs:List Str}:TW n us xs ts->∃y r,xs=y::r
 | .one _ _=>⟨_,_,rfl⟩
 | .more _ _ _=>⟨_,_,rfl⟩
mutual
theorem TP.tz {n:Nat}{u:U}{x:Str}{ts:List Str}:TP n u x ts->Tz x ts
 | .again=>vd (by rfl)
 | .fin h=>Tz.pre (by rfl) (vd (by rfl)) (gT h.1)
 | .lay h t=>Tz.mid (by rfl) (vd (by rfl)) (Tz.pre (by rfl) (vd (by rfl)) (gT h.1)) t.tz
 | .mix _ _ h t=>Tz.mid (by rfl) (vd (by rfl)) (Tz.pre (by rfl) (vd (by rfl)) (Kk h)) t.tz
 | .look h _ t=>Tz.brk (Tz.pre (by rfl) (vd (by rfl)) (gT h.1)) t.tz
theorem TW.tz {n:Nat}{us:List U}{xs ts:List Str}:TW n us xs ts->Tz (Ă " ; " xs) ts
 | .one h t=>Tz.mid (by rfl) (vd (by rfl)) (gT h.1) t.tz
 | .more (v:=v) (x:=x) (ts:=ts) (xs:=xs) (rs:=rs) h t r=>by
  obtain⟨y,z,e⟩:=r.ne;have b:=r.tz;rw[e] at b |-;have:=Tz.mid (s:=" ; ") (w:=";") (by rfl) (vd (by rfl)) (Tz.mid (s:=" : ") (w:=":") (by rfl) (vd (by rfl)) (gT h.1) t.tz) b;rw[õ,ϡ] at this;exact this
end
theorem RF {n:Int}(h:0<=n/\n<=9):(dg n).length=1:=by
 rcases W8 h with rfl|rfl|rfl|rfl|rfl|rfl|rfl|rfl|rfl|rfl<;>decide+kernel
theorem yG:∀{l:List Int},(∀n∈l,0<=n/\n<=9)->((l.map dg).map (·.length)).sum=l.length
 | [],_=>rfl
 |a::l,h=>by
  simp only[å,Υ,Ò,RF (h a (by simp)),yG λn hn=>h n (Ý _ hn)];lia
theorem cG {l:List Int}(h:mJ l):(bJ l).length<=16:=by
 have a:=ady " " (l.map dg);rw[yG h.1,Æ,show ((" ":String):Str).length=1 by rfl] at a;have:=h.2;unfold bJ;lia
def Cy {B:Nat}{ss:List Str}(h:∀y∈ss,y.length<=B):(ss.map (·.length)).sum<=ss.length*B:=StrLaws.sumLen_le ss h
theorem Bb {ps:List (List Int)}(h:∀p∈ps,mJ p)(l:ps.length<=24):((ps.map bJ).map (·.length)).sum+(ps.map bJ).length*3<=456:=by
 have a:=Cy (B:=16) (ss:=ps.map bJ) λy hy=>by obtain⟨p,hp,rfl⟩:=á.mp hy;exact cG (h p hp)
 grind
def vf {ps:List (List Int)}(h:∀p∈ps,mJ p)(l:ps.length<=24):(Ă " / " (ps.map bJ)).length<=456:=by
 have a:=ady " / " (ps.map bJ);rw[show ((" / ":String):Str).length=3 by rfl] at a;exact ä a (Bb h l)
noncomputable def lN (n:Nat):Nat:=500*6 ^ n
theorem Kl (n:Nat):lN (n+1)=6*lN n/\500<=lN n:=by
 unfold lN;rw[Ņ];have:1<=6 ^ n:=Nat.one_le_pow _ _ (by decide);lia
mutual
theorem TP.len {n:Nat}{u:U}{x:Str}{ts:List Str}:TP n u x ts->x.length<=lN n
 | .again (n:=n)=>by
  have:=Kl n;rw[show (("again":String):Str).length=5 by rfl];lia
 | .fin (n:=n) h=>by
  have:=Kl n;have:=cG h;rw[Ù,show (("end ":String):Str).length=4 by rfl];lia
 | .lay (n:=n) h t=>by
  have:=Kl n;have:=cG h;have:=t.len;rw[Ù,Ù,Ù,show (("lay ":String):Str).length=4 by rfl,show ((" : ":String):Str).length=3 by rfl];lia
 | .mix (n:=n) _ l h t=>by
  have:=Kl n;have:=vf h l;have:=t.len;rw[Ù,Ù,Ù,show (("mix ":String):Str).length=4 by rfl,show ((" : ":String):Str).length=3 by rfl];lia
 | .look (n:=n) (xs:=xs) h l t=>by
  have:=Kl n;have:=cG h;obtain⟨a,b⟩:=t.len;have c:=ady " ; " xs;have d:=Cy a;have e:xs.length*(19+lN n)<=5*(19+lN n):=aeP _ (by lia);rw[Ù,Ù,Ù,Ù,show (("look ":String):Str).length=5 by rfl,show ((" (":String):Str).length=2 by rfl,show ((")":String):Str).length=1 by rfl];rw[show ((" ; ":String):Str).length=3 by rfl] at c;lia
theorem TW.len {n:Nat}{us:List U}{xs ts:List Str}:TW n us xs ts->(∀y∈xs,y.length<=19+lN n)/\xs.length=us.length
 | .one h t=>by
  have:=cG h;have:=t.len;refine⟨λy hy=>?_,rfl⟩;rw[ð] at hy;rw[hy,Ù,Ù,show ((" : ":String):Str).length=3 by rfl];lia
 | .more h t r=>by
  have:=cG h;have:=t.len;obtain⟨a,b⟩:=r.len;refine⟨λy hy=>?_,by rw[Ò,Ò,b]⟩;rcases à.mp hy with rfl|hy
  ·rw[Ù,Ù,show ((" : ":String):Str).length=3 by rfl];lia
  ·exact a y hy
end
end Hc
end
section
set_option maxHeartbeats 400000
namespace Hc
open PySem L2
theorem yH {c:Nat}{z:List Nat}(hz:z.length=3):∀l:List Nat,(yQ c z l).length<=3*l.length
 | []=>Ð _
 |k::r=>by
  have:=yH (c:=c) hz r;unfold yQ;rw[Þ,Ò];split
  ·lia
  ·simp only[Ò,š];lia
def sF (x:Str):x.length=x.cps.toList.length:=by rfl
theorem Ey (h:x.length<=4000):Mqz x:=by
 have a:(OA x).length<=3*x.length:=by
  unfold OA;rw[sF (η _ _ _),sF x,show (("(":String):Str)=⟨#[40]⟩ by rfl,yE];exact yH (by rfl) _
 have b:(Ec x).length<=3*(OA x).length:=by
  unfold Ec;rw[sF (η _ _ _),sF (OA x),show ((")":String):Str)=⟨#[41]⟩ by rfl,yE];exact yH (by rfl) _
 have c:=StrLaws.words_weight (Ec x);have d:(ϸ (Ec x) ((Ec x).length+1)).length=(Txt.words (Ec x)).length:=by
  have:=congrArg ť (KWd.wordsOf_scan (Ec x));grind[Æ,KWd.words_scan]
 have e:Â=16777216:=by rfl
 refine⟨by lia,by lia,by lia,by lia,?_⟩;unfold my;lia
open Classical in
theorem MY {m:Int}(t:TP 5 u x ts)(hx:x.length<=4000)(hp:dA [u,.int m]=.ok (.bl M))(ht:aR 20 [u]=.ok (.str x)):dW [.str x,.int m]=.ok u:=by
 have rd:=TP.read t (d:=1) (ws:=ts) (i:=0) (j:=ts.length) (by decide) (λk y e=>by rw[Ġ];exact e) (.inl (by unfold cm;rw[π (Ð _)];rfl)) (by lia);rw[<-t.tz.toks] at rd;have h:∃u,WZ x u/\dA [u,.int m]=.ok (.bl M)/\aR 20 [u]=.ok (.str x):=⟨u,⟨Ey hx,⟨_,rd.1⟩,rd.2⟩,hp,ht⟩;show (if h:∃u,WZ x u/\dA [u,.int m]=.ok (.bl M)/\aR 20 [u]=.ok (.str x) then R.ok h.choose else R.stk)=_;rw[dif_pos h];obtain⟨⟨_,⟨j,k⟩,_⟩,_⟩:=h.choose_spec;rw[(Ex 5 _ _ _ _ _ _ _ k rd.1).1]
open Classical in
theorem Km {l:List Int}(h:mJ l)(hp:f9 [au l]=.ok (.bl M))(ht:cv [au l]=.ok (.str (bJ l))):fM [.str (bJ l)]=.ok (au l):=by
 have z:my (bJ l)=l.map dg:=(gT h.1).toks;have rd:Bl [] (my (bJ l)) 0 (au l) l.length:=by
  rw[z];exact lq h (λk y e=>by rw[Ġ];exact e) (by simp[Ġ,cm,π,n6]) (by lia)
 have h':∃u,W0 (bJ l) u/\f9 [u]=.ok (.bl M)/\cv [u]=.ok (.str (bJ l)):=⟨au l,⟨Ey (by have:=cG h;lia),⟨_,rd⟩,fy l⟩,hp,ht⟩;show (if h:∃u,W0 (bJ l) u/\f9 [u]=.ok (.bl M)/\cv [u]=.ok (.str (bJ l)) then R.ok h.choose else R.stk)=_;rw[dif_pos h'];obtain⟨⟨_,⟨j,k⟩,_⟩,_⟩:=h'.choose_spec;rw[(lZ k rd).1]
end Hc
end
namespace Hc
open L2
theorem Bc:∀xs:List Str,Aj (xs.map .str)=J xs
 | []=>rfl
 |x::xs=>by show (Aj (xs.map .str)).map (x::·)=_;rw[Bc xs];rfl
theorem RG {n:Int}(h:0<=n/\n<=9):B_ [.int n]=.ok (.str (dg n)):=by
 unfold B_;exact hV (by lia)
def yI {yS:Str}{xs:List Str}(h:(xs.map (·.length)).sum+xs.length*yS.length<=16777216):jw yS [.lst (xs.map .str)]=.ok (.str (Ă yS xs)):=by
 simp_all[jw,Bc,hV,Txt.join,StrLaws.glued_eq_join]
def RH {l:List Int}(CH:∀u,cx 0 u (fG js B)=.ok [J u])(h:∀n∈l,0<=n/\n<=9) :
  iS (j8 js (cx 0) bK (dq B_ (ae (af 0) ao)) B) (l.map .int)=.ok ((l.map dg).map .str):=by
 rw[ö];refine eH λn hn=>?_;unfold j8;rw[CH];simp only[Pzz,bF,Nat.reduceAdd,Nat.reduceSub,RG (h n hn)];rfl
theorem Xb {l:List Int}(h:mJ l):jw " " [.lst ((l.map dg).map .str)]=.ok (.str (bJ l)):=yI (by
 rw[yG h.1,Æ,show ((" ":String):Str).length=1 by rfl];have:=h.2;lia)
def eO {l:List Int}(h:mJ l):bq [au l]=.ok (.str (bJ l)):=by
 have e:=RH (js:=[Z]) (B:=[J (au l)]) (λ_=>rfl) h.1;simp only[bq,iF,Pzz,bF,Nat.reduceAdd,Nat.reduceSub,au,Æ];simp only[au] at e;rw[e];simp only[Pzz,bF,Nat.reduceAdd,Nat.reduceSub,Xb h]
def iJ {l:List Int}(h:mJ l):cv [au l]=.ok (.str (bJ l)):=eO h
def qb {a b:Str}(h:a.length+b.length<=16777216):fk (.str a) (.str b)=.ok (.str (a++b)):=by
 simp_all[fk,hV,Ù,Â]
def sB:((("again":String):Str)==(("again":String):Str))=M/\((("again":String):Str)==(("end":String):Str))=Y/\((("again":String):Str)==(("lay":String):Str))=Y/\((("again":String):Str)==(("mix":String):Str))=Y/\((("again":String):Str)==(("look":String):Str))=Y/\((("end":String):Str)==(("again":String):Str))=Y/\((("end":String):Str)==(("end":String):Str))=M/\((("end":String):Str)==(("lay":String):Str))=Y/\((("end":String):Str)==(("mix":String):Str))=Y/\((("end":String):Str)==(("look":String):Str))=Y/\((("lay":String):Str)==(("again":String):Str))=Y/\((("lay":String):Str)==(("end":String):Str))=Y/\((("lay":String):Str)==(("lay":String):Str))=M/\((("lay":String):Str)==(("mix":String):Str))=Y/\((("lay":String):Str)==(("look":String):Str))=Y/\((("mix":String):Str)==(("again":String):Str))=Y/\((("mix":String):Str)==(("end":String):Str))=Y/\((("mix":String):Str)==(("lay":String):Str))=Y/\((("mix":String):Str)==(("mix":String):Str))=M/\((("mix":String):Str)==(("look":String):Str))=Y/\((("look":String):Str)==(("again":String):Str))=Y/\((("look":String):Str)==(("end":String):Str))=Y/\((("look":String):Str)==(("lay":String):Str))=Y/\((("look":String):Str)==(("mix":String):Str))=Y/\((("look":String):Str)==(("look":String):Str))=M:=by decide+kernel
def yJ (n:Nat):cR .S 3 (cM n)=bh n:=rfl
def s4:(("end ":String):Str).length=4/\(("lay ":String):Str).length=4/\(("mix ":String):Str).length=4/\(("look ":String):Str).length=5/\((" : ":String):Str).length=3/\((" (":String):Str).length=2/\((")":String):Str).length=1:=by decide+kernel
def Gb {n:Nat}:bh (n+1) [.tup [.str "again"]]=.ok (.str "again"):=by kernel_rfl
theorem MZ {n:Nat}(h:mJ cs):bh (n+1) [.tup [.str "end",au cs]]=.ok (.str (("end ":Str)++bJ cs)):=by
 have l:=cG h;have e:=qb (a:="end ") (b:=bJ cs) (by have:=s4;lia);simp only[bh,cM,Pzz,bF,Nat.reduceAdd,Nat.reduceSub,sB,id,eO h,e]
theorem M3 {n:Nat}{p:List Int}(h:mJ p)(hx:x.length<=10000000)(t:bh n [q]=.ok (.str x)):bh (n+1) [.tup [.str "lay",au p,q]]=.ok (.str (("lay ":Str)++bJ p++" : "++x)):=by
 have l:=cG h;have s:=s4;have e1:=qb (a:="lay ") (b:=bJ p) (by lia);have e2:=qb (a:=("lay ":Str)++bJ p) (b:=" : ") (by rw[Ù];lia);have e3:=qb (a:=("lay ":Str)++bJ p++" : ") (b:=x) (by rw[Ù,Ù];lia);rw[bh,cM,yJ];simp only[Pzz,bF,Nat.reduceAdd,Nat.reduceSub,sB,id,eO h,t,e1,e2,e3]
def OV {ps:List (List Int)}(CH:∀u,cx 0 u (fG js B)=.ok [J u])(h:∀p∈ps,mJ p) :
  iS (j8 js (cx 0) bK (dz 1 bq (ae (af 0) ao)) B) (ps.map au)=.ok ((ps.map bJ).map .str):=by
 rw[ö];refine eH λp hp=>?_;unfold j8;rw[CH];simp only[Pzz,bF,Nat.reduceAdd,Nat.reduceSub,eO (h p hp)];rfl
theorem UN {ps:List (List Int)}(h:∀p∈ps,mJ p)(l:ps.length<=24):jw " / " [.lst ((ps.map bJ).map .str)]=.ok (.str (Ă " / " (ps.map bJ))):=yI (by
 have:=Bb h l;rw[show ((" / ":String):Str).length=3 by rfl];lia)
theorem M4 {n:Nat}{ps:List (List Int)}(l:ps.length<=24)(h:∀p∈ps,mJ p)(hx:x.length<=10000000)(t:bh n [q]=.ok (.str x)):bh (n+1) [.tup [.str "mix",.tup (ps.map au),q]]=.ok (.str (("mix ":Str)++Ă " / " (ps.map bJ)++" : "++x)):=by
 have lo:=vf h l;have s:=s4;generalize ej:Ă " / " (ps.map bJ)=Jq at lo;have e0:=UN h l;rw[ej] at e0;have e1:=qb (a:="mix ") (b:=Jq) (by lia);have e2:=qb (a:=("mix ":Str)++Jq) (b:=" : ") (by rw[Ù];lia);have e3:=qb (a:=("mix ":Str)++Jq++" : ") (b:=x) (by rw[Ù,Ù];lia);have e4:=OV (js:=[Z]) (B:=[J (.tup [.str "mix",.tup (ps.map au),q]),Z,Z]) (λ_=>rfl) h;have sz:ps.length<=Â:=by rw[show Â=16777216 by decide+kernel];lia
 rw[bh,cM,yJ];simp only[Pzz,bF,Nat.reduceAdd,Nat.reduceSub,sB,id,Æ,e4,e0,t,e1,e2,e3,sz]
abbrev Xc (f:List U->R U):Ev->R (U×Ev):=aI fk (aI fk (dz 1 bq (ae (af 0) ao)) (gC (.str " : "))) (dz 1 f (ae (af 1) ao))
abbrev VJ:U->Ev->R Ev:=tm 2 (gr (cx 0) (gr (cx 1) wu))
theorem OW {f:List U->R U}{v:List Int}(h:mJ v)(hx:x.length<=10000000)(t:f [q]=.ok (.str x)):j8 [Z,Z] VJ bK (Xc f) B (.tup [au v,q])=.ok (J (.str (bJ v++" : "++x))):=by
 have l:=cG h;have s:=s4;have e2:=qb (a:=bJ v) (b:=" : ") (by lia);have e3:=qb (a:=bJ v++" : ") (b:=x) (by rw[Ù];lia);unfold j8;rw[show VJ (.tup [au v,q]) (fG [Z,Z] B)=.ok [J (au v),J q] from rfl];simp only[Pzz,bF,Nat.reduceAdd,Nat.reduceSub,eO h,t,e2,e3]
theorem OX {n:Nat}{xs:List Str}(T:TW n us xs ts)(l:us.length<=5)(ln:lN n<=1000000):jw " ; " [.lst (xs.map .str)]=.ok (.str (Ă " ; " xs))/\(Ă " ; " xs).length<=6000000:=by
 obtain⟨a,b⟩:=T.len;have d:=Cy a;have c:=ady " ; " xs;rw[show ((" ; ":String):Str).length=3 by rfl] at c;have e:xs.length*(19+lN n)<=5*(19+lN n):=aeP _ (by lia);exact⟨yI (by rw[show ((" ; ":String):Str).length=3 by rfl];lia),by lia⟩
theorem Kn {n:Nat}{pl:List Int}{xs:List Str}(h:mJ pl)(l:us.length<=5)(ln:lN n<=1000000)(T:TW n us xs ts)(e:iS (j8 [Z,Z] VJ bK (Xc (bh k)) [J (.tup [.str "look",au pl,.tup us]),Z,Z]) us=.ok (xs.map .str)):bh (k+1) [.tup [.str "look",au pl,.tup us]]=.ok (.str (("look ":Str)++bJ pl++" ("++Ă " ; " xs++")")):=by
 have lo:=cG h;have s:=s4;obtain⟨e0,lj⟩:=OX T l ln;generalize Ă " ; " xs=Jq at e0 lj;have e1:=qb (a:="look ") (b:=bJ pl) (by lia);have e2:=qb (a:=("look ":Str)++bJ pl) (b:=" (") (by rw[Ù];lia);have e3:=qb (a:=("look ":Str)++bJ pl++" (") (b:=Jq) (by rw[Ù,Ù];lia);have e4:=qb (a:=("look ":Str)++bJ pl++" ("++Jq) (b:=")") (by rw[Ù,Ù,Ù];lia);have sz:us.length<=Â:=by rw[show Â=16777216 by decide+kernel];lia
 rw[bh,cM,yJ];simp only[Pzz,bF,Nat.reduceAdd,Nat.reduceSub,sB,id,eO h,e,e0,e1,e2,e3,e4,sz]
def sG {f:U->R (Option U)}{zs:List U}{z:U}(h:f u=.ok (J z))(r:iS f us=.ok zs):iS f (u::us)=.ok (z::zs):=by
 unfold iS;rw[h];show (iS f us).bind _=_;rw[r];rfl
theorem Be {n:Nat}(h:n<=5):lN n<=10000000:=by
 have:=Ω (n:=6) (by decide) h;unfold lN;lia
theorem UO {n:Nat}(h:n+1<=5):lN n<=1000000:=by
 have:=Ω (n:=6) (by decide) (show n<=4 by lia);unfold lN;lia
mutual
theorem TP.law {n:Nat}{u:U}{x:Str}{ts:List Str}:TP n u x ts->n<=5->∀k,bh (k+n) [u]=.ok (.str x)
 | .again=>λ_ k=>Gb
 | .fin h=>λ_ k=>MZ h
 | .lay h t=>λhn k=>M3 h (ä t.len (Be (by lia))) (TP.law t (by lia) k)
 | .mix _ l h t=>λhn k=>M4 l h (ä t.len (Be (by lia))) (TP.law t (by lia) k)
 | .look h l t=>λhn k=>Kn h l (UO hn) t (TW.law t (by lia) k _)
theorem TW.law {n:Nat}{us:List U}{xs ts:List Str}:TW n us xs ts->n<=5->∀k B,iS (j8 [Z,Z] VJ bK (Xc (bh (k+n))) B) us=.ok (xs.map .str)
 | .one h t=>λhn k B=>sG (OW h (ä t.len (Be hn)) (TP.law t hn k)) rfl
 | .more h t r=>λhn k B=>sG (OW h (ä t.len (Be hn)) (TP.law t hn k)) (TW.law r hn k B)
end
def UP {ps:List (Str ⊕ Nat)}:gF ps B=(pW B ps č).bind λx=>if x.length<=Â then .ok (.str x,B) else .stk:=nr rfl
def vg (n:Nat):cR .S 5 (cC n)=aR n:=rfl
def Ko (n:Nat):cR .S 3 (fK n)=fL n:=rfl
def M5 {n:Nat}:aR (n+1) [.tup [.str "again"]]=.ok (.str "again"):=by kernel_rfl
def Kp {bH:Str}(h:bH.length<=16777216):((pW B [] bH).bind λx=>if x.length<=Â then R.ok (U.str x,B) else .stk)=.ok (.str bH,B):=hV h
def yK {ps:List (Str ⊕ Nat)}{bH s:Str}(h:bH.length+s.length<=16777216):pW B (.inl s::ps) bH=pW B ps (bH++s):=hV (by rw[Ù];exact h)
theorem vh {ps:List (Str ⊕ Nat)}{bH:Str}(e:B[i]? = J (J (.str y)))(h:bH.length+y.length<=16777216):pW B (.inr i::ps) bH=pW B ps (bH++y):=by
 show (match B[i]? with|some (J (.str y))=>if y.length<=Â/\(bH++y).length<=Â then pW B ps (bH++y) else .stk|_=>.stk)=_;rw[e];exact hV ⟨by show y.length<=16777216;lia,by rw[Ù];exact h⟩
def l0:Str.empty.length=0:=rfl
theorem UQ {n:Nat}(h:mJ cs):aR (n+1) [.tup [.str "end",au cs]]=.ok (.str (("end ":Str)++bJ cs)):=by
 have l:=cG h;have s:=s4;have e:∀a b c d,gF [.inl "end ",.inr 2] [a,b,J (.str (bJ cs)),c,d]=.ok (.str (("end ":Str)++bJ cs),[a,b,J (.str (bJ cs)),c,d]):=λa b c d=>by
  rw[UP,yK (by rw[l0];decide),Χ,vh rfl (by lia),Kp (by rw[Ù];lia)]
 rw[aR,cC];simp only[Pzz,bF,Nat.reduceAdd,Nat.reduceSub,sB,id,iJ h,e]
theorem UR {n:Nat}{p:List Int}(h:mJ p)(hx:x.length<=10000000)(t:aR n [q]=.ok (.str x)):aR (n+1) [.tup [.str "lay",au p,q]]=.ok (.str (("lay ":Str)++bJ p++" : "++x)):=by
 have l:=cG h;have s:=s4;have e:∀a c,gF [.inr 1,.inl " ",.inr 2,.inl " : ",.inr 4] [a,J (.str "lay"),J (.str (bJ p)),c,J (.str x)]=.ok (.str (("lay ":Str)++bJ p++" : "++x),[a,J (.str "lay"),J (.str (bJ p)),c,J (.str x)]):=λa c=>by
  rw[UP,vh rfl (by decide+kernel),Χ,yK (by decide+kernel),show ("lay":Str)++((" ":String):Str)=(("lay ":String):Str) by rfl,vh rfl (by lia),yK (by rw[Ù];lia),vh rfl (by rw[Ù,Ù];lia),Kp (by rw[Ù,Ù,Ù];lia)]
 rw[aR,cC,vg];simp only[Pzz,bF,Nat.reduceAdd,Nat.reduceSub,sB,id,iJ h,t,e]
theorem US {n:Nat}{ps:List (List Int)}(l:ps.length<=24)(h:∀p∈ps,mJ p)(hx:x.length<=10000000)(t:aR n [q]=.ok (.str x)):aR (n+1) [.tup [.str "mix",.tup (ps.map au),q]]=.ok (.str (("mix ":Str)++Ă " / " (ps.map bJ)++" : "++x)):=by
 have lo:=vf h l;have s:=s4;have e0:=UN h l;have e4:=OV (js:=[Z]) (B:=[J (.tup [.str "mix",.tup (ps.map au),q]),J (.str "mix"),Z,Z,Z]) (λ_=>rfl) h;rw[show bq=cv from rfl] at e4;generalize Ă " / " (ps.map bJ)=Jq at lo e0;have e:∀a c,gF [.inr 1,.inl " ",.inr 2,.inl " : ",.inr 4] [a,J (.str "mix"),J (.str Jq),c,J (.str x)]=.ok (.str (("mix ":Str)++Jq++" : "++x),[a,J (.str "mix"),J (.str Jq),c,J (.str x)]):=λa c=>by
  rw[UP,vh rfl (by decide+kernel),Χ,yK (by decide+kernel),show ("mix":Str)++((" ":String):Str)=(("mix ":String):Str) by rfl,vh rfl (by lia),yK (by rw[Ù];lia),vh rfl (by rw[Ù,Ù];lia),Kp (by rw[Ù,Ù,Ù];lia)]
 have sz:ps.length<=Â:=by rw[show Â=16777216 by decide+kernel];lia
 rw[aR,cC,vg];simp only[Pzz,bF,Nat.reduceAdd,Nat.reduceSub,sB,id,Æ,e4,e0,t,e,sz]
theorem UT {n:Nat}{v:List Int}(h:mJ v)(hx:x.length<=10000000)(t:aR n [q]=.ok (.str x)):fL (n+1) [.tup [au v,q]]=.ok (.str (bJ v++" : "++x)):=by
 have l:=cG h;have s:=s4;have e:∀a,gF [.inr 1,.inl " : ",.inr 2] [a,J (.str (bJ v)),J (.str x)]=.ok (.str (bJ v++" : "++x),[a,J (.str (bJ v)),J (.str x)]):=λa=>by
  rw[UP,vh rfl (by rw[l0];lia),Χ,yK (by lia),vh rfl (by rw[Ù];lia),Kp (by rw[Ù,Ù];lia)]
 rw[fL,fK,vg];simp only[Pzz,bF,Nat.reduceAdd,Nat.reduceSub,iJ h,t,e]
def OY {f:List U->R U}(t:f [u]=.ok (.str x)):j8 [Z] (cx 0) bK (dz 1 f (ae (af 0) ao)) B u=.ok (J (.str x)):=by
 unfold j8;rw[show cx 0 u (fG [Z] B)=.ok [J u] from rfl];simp only[Pzz,bF,Nat.reduceAdd,Nat.reduceSub,t]
theorem RI {n:Nat}{pl:List Int}{xs:List Str}(h:mJ pl)(l:us.length<=5)(ln:lN n<=1000000)(T:TW n us xs ts)(e:iS (j8 [Z] (cx 0) bK (dz 1 (fL k) (ae (af 0) ao)) [J (.tup [.str "look",au pl,.tup us]),J (.str "look"),J (.str (bJ pl)),Z,Z]) us=.ok (xs.map .str)):aR (k+1) [.tup [.str "look",au pl,.tup us]]=.ok (.str (("look ":Str)++bJ pl++" ("++Ă " ; " xs++")")):=by
 have lo:=cG h;have s:=s4;obtain⟨e0,lj⟩:=OX T l ln;generalize Ă " ; " xs=Jq at e0 lj;have e1:∀a b c,gF [.inl "look ",.inr 2,.inl " (",.inr 3,.inl ")"] [a,b,J (.str (bJ pl)),J (.str Jq),c]=.ok (.str (("look ":Str)++bJ pl++" ("++Jq++")"),[a,b,J (.str (bJ pl)),J (.str Jq),c]):=λa b c=>by
  rw[UP,yK (by rw[l0];decide),Χ,vh rfl (by lia),yK (by rw[Ù];lia),vh rfl (by rw[Ù,Ù];lia),yK (by rw[Ù,Ù,Ù];lia),Kp (by rw[Ù,Ù,Ù,Ù];lia)]
 have sz:us.length<=Â:=by rw[show Â=16777216 by decide+kernel];lia
 rw[aR,cC,Ko];simp only[Pzz,bF,Nat.reduceAdd,Nat.reduceSub,sB,id,iJ h,e,e0,e1,sz]
mutual
theorem TP.pt {n:Nat}{u:U}{x:Str}{ts:List Str}:TP n u x ts->n<=5->∀k,2*n<=k->aR k [u]=.ok (.str x)
 | .again=>λhn k hk=>by obtain _|k:=k;lia;exact M5
 | .fin h=>λhn k hk=>by obtain _|k:=k;lia;exact UQ h
 | .lay h t=>λhn k hk=>by obtain _|k:=k;lia;exact UR h (ä t.len (Be (by lia))) (TP.pt t (by lia) k (by lia))
 | .mix _ l h t=>λhn k hk=>by obtain _|k:=k;lia;exact US l h (ä t.len (Be (by lia))) (TP.pt t (by lia) k (by lia))
 | .look h l t=>λhn k hk=>by obtain _|_|k:=k;lia;lia;exact RI h l (UO hn) t (TW.pt t (by lia) k (by lia) _)
theorem TW.pt {n:Nat}{us:List U}{xs ts:List Str}:TW n us xs ts->n<=5->∀k,2*n<=k->∀B,iS (j8 [Z] (cx 0) bK (dz 1 (fL (k+1)) (ae (af 0) ao)) B) us=.ok (xs.map .str)
 | .one h t=>λhn k hk B=>sG (OY (UT h (ä t.len (Be hn)) (TP.pt t hn k hk))) rfl
 | .more h t r=>λhn k hk B=>sG (OY (UT h (ä t.len (Be hn)) (TP.pt t hn k hk))) (TW.pt r hn k hk B)
end
def M6 {m:Int}(t:TP 5 u x ts)(hp:dA [u,.int m]=.ok (.bl M)):bh 20 [u]=.ok (.str x)/\aR 20 [u]=.ok (.str x)/\(x.length<=4000->dW [.str x,.int m]=.ok u):=
 ⟨t.law (by decide) 15,t.pt (by decide) 20 (by decide),λh=>MY t h hp (t.pt (by decide) 20 (by decide))⟩
def Kq (n:Nat):cR .S 1 (d_ n)=aM n:=rfl
def RJ {n:Nat}{i:Int}:aM (n+1) [.int i]=.ok (.bl M):=by kernel_rfl
def RK {n:Nat}:aM (n+1) [.str x]=.ok (.bl M):=by kernel_rfl
theorem Kr {f:U->R (Option U)}:∀{us:List U},(∀u∈us,f u=.ok Z)->iS f us=.ok []
 | [],_=>rfl
 |u::us,h=>by
  unfold iS;rw[h u Ú];show (iS f us).bind _=_;rw[Kr λv hv=>h v (Ý _ hv)];rfl
theorem qc {n:Nat}(l:us.length<=1000)(h:∀u∈us,aM n [u]=.ok (.bl M)):aM (n+1) [.tup us]=.ok (.bl M):=by
 have e:iS (j8 [Z] (cx 0) (jq (gB (dz 1 (aM n) (ae (af 0) ao)))) (af 0) [J (.tup us)]) us=.ok []:=Kr λu hu=>by
  unfold j8;rw[show cx 0 u (fG [Z] [J (.tup us)])=.ok [J u] from rfl];simp only[Pzz,bF,Nat.reduceAdd,Nat.reduceSub,h u hu]
 have sz:us.length<=Â:=by rw[show Â=16777216 by decide+kernel];lia
 have z:lP id (.lst []) (.lst [])=.ok (.bl M):=by kernel_rfl
 rw[aM,d_,Kq];simp only[Pzz,bF,Nat.reduceAdd,Nat.reduceSub,e,z,sz];rfl
theorem nB {l:List Int}(h:l.length<=8):∀{k:Nat},2<=k->aM k [au l]=.ok (.bl M)
 |k+2,_=>qc (by rw[Æ];lia) λu hu=>by obtain⟨i,_,rfl⟩:=á.mp hu;exact RJ
theorem RL {n:Nat}{a b c:U}(h1:aM n [a]=.ok (.bl M))(h2:aM n [b]=.ok (.bl M))(h3:aM n [c]=.ok (.bl M)):aM (n+1) [.tup [a,b,c]]=.ok (.bl M):=qc (by simp) λu hu=>by
 simp only[à,Ő,or_false] at hu;rcases hu with rfl|rfl|rfl
 ·exact h1
 ·exact h2
 ·exact h3
theorem RN {n:Nat}{a b:U}(h1:aM n [a]=.ok (.bl M))(h2:aM n [b]=.ok (.bl M)):aM (n+1) [.tup [a,b]]=.ok (.bl M):=qc (by simp) λu hu=>by
 simp only[à,Ő,or_false] at hu;rcases hu with rfl|rfl
 ·exact h1
 ·exact h2
def Ks:∀{k:Nat},1<=k->aM k [.str x]=.ok (.bl M)
 |k+1,_=>RK
mutual
theorem TP.plain {n:Nat}{u:U}{x:Str}{ts:List Str}:TP n u x ts->∀k:Nat,3*n+2<=k->aM k [u]=.ok (.bl M)
 | .again=>λk hk=>by obtain _|k:=k;lia;exact qc (by simp) λu hu=>by rw[ð.mp hu];exact Ks (by lia)
 | .fin h=>λk hk=>by obtain _|k:=k;lia;exact RN (Ks (by lia)) (nB h.2 (by lia))
 | .lay h t=>λk hk=>by obtain _|k:=k;lia;exact RL (Ks (by lia)) (nB h.2 (by lia)) (TP.plain t _ (by lia))
 | .mix (ps:=ps) _ l h t=>λk hk=>by obtain _|_|k:=k;lia;lia;exact RL (Ks (by lia)) (qc (by rw[Æ];lia) λu hu=>by obtain⟨p,hp,rfl⟩:=á.mp hu;exact nB (h p hp).2 (by lia)) (TP.plain t _ (by lia))
 | .look h l t=>λk hk=>by obtain _|_|k:=k;lia;lia;exact RL (Ks (by lia)) (nB h.2 (by lia)) (qc (by lia) (TW.plain t _ (by lia)))
theorem TW.plain {n:Nat}{us:List U}{xs ts:List Str}:TW n us xs ts->∀k:Nat,3*n+3<=k->∀u∈us,aM k [u]=.ok (.bl M)
 | .one h t=>λk hk u hu=>by
  obtain _|k:=k;lia;rw[ð.mp hu];exact RN (nB h.2 (by lia)) (TP.plain t _ (by simp_all))
 | .more h t r=>λk hk u hu=>by
  obtain _|k:=k;lia
  rcases à.mp hu with rfl|hu
  ·exact RN (nB h.2 (by lia)) (TP.plain t _ (by simp_all))
  ·exact TW.plain r _ hk u hu
end
mutual
theorem TP.up {n:Nat}{u:U}{x:Str}{ts:List Str}:TP n u x ts->TP (n+1) u x ts
 | .again=>.again
 | .fin h=>.fin h
 | .lay h t=>.lay h t.up
 | .mix a b h t=>.mix a b h t.up
 | .look h l t=>.look h l t.up
theorem TW.up {n:Nat}{us:List U}{xs ts:List Str}:TW n us xs ts->TW (n+1) us xs ts
 | .one h t=>.one h t.up
 | .more h t r=>.more h t.up r.up
end
theorem TP.le {n:Nat}{u:U}{x:Str}{ts:List Str}(h:TP n u x ts):∀k,TP (n+k) u x ts
 |0=>h
 |k+1=>(TP.le h k).up
theorem Ez {p:List Int}(h:iI m p)(h8:m<=8):mJ p:=⟨λn hn=>by have:=uZ h n hn;lia,by rw[i4 h];exact h8⟩
theorem sH {m:Nat}(h8:m<=8):∀{d:Nat} {u:U},cn m d u->∃x ts,TP d u x ts
 |0,_,h=>by cases h
 |d+1,u,h=>by
  unfold cn at h;have pd:∀{l:List Int},MF m l->mJ l:=λk=>⟨λn hn=>by have:=k.2.2.1 n hn;lia,k.2.1⟩;rcases h with⟨cs,rfl,h⟩|rfl|⟨p,q,rfl,h,t⟩|⟨ps,q,rfl,h,t⟩|⟨pl,ws,rfl,h1,h2,h3,_,h4⟩
  ·exact⟨_,_,.fin (pd h)⟩
  ·exact⟨_,_,.again⟩
  ·obtain⟨x,ts,t⟩:=sH h8 t;exact⟨_,_,.lay (Ez h h8) t⟩
  ·obtain⟨x,ts,t⟩:=sH h8 t;exact⟨_,_,.mix h.1 h.2.1 (λp hp=>Ez (h.2.2 p hp) h8) t⟩
  ·have key:∀l:List (List Int×U),l≠[]->(∀w∈l,(w.1.length=pl.length/\F1 w.1)/\cn m d w.2)->∃xs ts,TW d (l.map kq) xs ts:=λl=>by
    induction l with
    |nil=>intro h;exact (h rfl).elim
    |cons w l ih=>
     intro _ hl;have a:=hl w Ú;obtain⟨x,ts,t⟩:=sH h8 a.2;have dv:mJ w.1:=⟨a.1.2,by have:=h1.2.1;lia⟩;cases l with
     |nil=>exact⟨_,_,.one dv t⟩
     |cons w' l=>
      obtain⟨xs,rs,r⟩:=ih (by simp) λv hv=>hl v (Ý _ hv);exact⟨_,_,.more dv t r⟩
   obtain⟨xs,ts,t⟩:=key ws h2 h4;exact⟨_,_,.look (pd h1) (by rw[Æ];exact h3) t⟩
theorem Kt (h8:m<=8)(hd:d<=5)(h:cn m d u):∃x ts,TP 5 u x ts:=by
 obtain⟨x,ts,t⟩:=sH h8 h;have:=t.le (5-d);rw[show d+(5-d)=5 by simp[*]] at this;exact⟨x,ts,this⟩
theorem r_ {n:Nat}(h:gj n u=M)(hn:n<=20):n9 u u=.ok M:=by
 obtain⟨d,e,l⟩:=J3 h;unfold n9;rw[e];dsimp only;rw[hV (by lia),sU]
def Ku (h:x.length<=16777216):dI [.str x]=.ok (.int x.length):=hV h
theorem Kv {l:List Int}(h1:l≠[])(h8:l.length<=8)(h:F1 l):f9 [au l]=.ok (.bl M):=by
 have e:iS (j8 [Z] (cx 0) bK (dz 1 eU (ae (af 0) ao)) [J (.tup (l.map U.int))]) (l.map U.int)=.ok ((l.map U.int).map λu=>.bl (BX 0 9 u)):=iT λu hu=>by
  obtain⟨i,hi,rfl⟩:=á.mp hu;simp only[Pzz,bF,Nat.reduceAdd,Nat.reduceSub,Ek (ll (n:=0) (u:=.int i) rfl (by decide))]
 have a:(l.map U.int).all (BX 0 9)=M:=ì.mpr λu hu=>by
  obtain⟨i,hi,rfl⟩:=á.mp hu;have:=h i hi;show (decide (0<=i)&&decide (i<=9))=M;rw[hG this.1,hG this.2];rfl
 have p:=Ÿ.mpr h1;have c1:decide ((1:Int)<=(l.length:Nat))=M:=hG (by lia);have c2:decide (((l.length:Nat):Int)<=8)=M:=hG (by lia);rw[fD];simp only[f9,uK,Pzz,bF,Nat.reduceAdd,Nat.reduceSub,Æ,c1,c2,e,cE,a]
theorem M7 {x2 x3 x4 x5 x6 x7:Option U}:∃a b c d e f:Option U,uR [J (.scr (ns.map .int)),J (.int i),x2,x3,x4,x5,x6,x7]=.nx [J (.scr (ns.map .int)),J (.int i),a,b,c,d,e,f]:=by
 obtain⟨s0,e0,h0⟩:=JO (us:=[]) (u:=.scr (ns.map .int)) (ns:=ns) (k:=i) (.inl rfl) (by lia);obtain⟨t,s1,e1,t0,t1,h1⟩:=cY (m:=8) h0 (by decide) (by decide);obtain⟨m,hm⟩:∃m:Nat,1+t=m:=⟨(1+t).toNat,by lia⟩;obtain⟨ys,s2,e2,ly,base,hy,hb,iQ,iK⟩:=ju (G:=JF) (js:=[Z,J 2,J 3]) (sg:=cx 0) (ge:=jr 2 1 fO (ae (af 2) ao))
  (λx:U=>[J (.scr (ns.map .int)),J (.int i),J x,J (.int m),x4,x5,x6,x7]) 2 (λys x=>∃base:List (List Int),ys=base.map au/\(∀b∈base,b.length=m)/\(∀b∈base,F1 b)/\kr x)
  (λdone u x hd h00=>by
   obtain⟨base,hr,hb,hc,hx⟩:=h00;obtain⟨row,x',f1,f2,f3,vt⟩:=Rf (m:=m) hx (by lia);refine⟨[J u,J x,J (.int m)],au row,[J u,J x',J (.int m)],x',rfl,?_,rfl,base++[row],by rw[hr,Ą];rfl,?_,?_,vt⟩
   ·simp only[Pzz,bF,Nat.reduceAdd,Nat.reduceSub,f1,fD]
   ·intro b Vn;rcases ñ.mp Vn with y|y
    ·exact hb b y
    ·rw[ð.mp y];exact f2
   ·intro b Vn;rcases ñ.mp Vn with y|y
    ·exact hc b y
    ·rw[ð.mp y];exact λc hc=>by have:=f3 c hc;lia) (aN 0 2) [] s1 (by rw[bx];simp) ⟨[],rfl,(λb h=>by cases h),(λb h=>by cases h),h1⟩
 rw[Τ] at hy;subst hy;rw[bx,Æ] at ly;have bas:F0 base m:=⟨by lia,by lia,by lia,hb⟩;have YV:Rg base base:=⟨λy=>by grind,λr hr=>⟨r,hr,Ŀ _⟩⟩;obtain⟨r0,rs,rfl⟩:=ϛ YV.1;obtain⟨z,hz,z2,z7⟩:∃z:Int,(3:Int)-(if decide ((6:Int)<m)=M then 1 else 0)=z/\2<=z/\z<=3/\(7<=m->z<=2):=by
  by_cases c:(6:Int)<m
  ·simp[*]
  ·exact⟨3,by rw[hJ c];rfl,by lia,by lia,by grind⟩
 obtain⟨q,s3,e3,q0,q1,h3⟩:=cY (m:=z) iK (by grind) (by grind);obtain⟨k,hk⟩:∃k:Nat,(2:Int)+q=(k:Int)+1:=⟨(1+q).toNat,by lia⟩;have hc:7<=m->(r0::rs).length<=cap ((k:Int)+1):=λh7=>by
  have:=z7.2 h7;have:k=1\/k=2:=by grind
  rw[ly];rcases this with rfl|rfl<;>decide
 obtain⟨P,s4,e4,hP,zP,h4⟩:=Kh (b:=M) bas iQ YV hc (by (simp at *;lia)) h3;rw[<-hk] at e4;obtain⟨x,ts,T⟩:=Kt (m:=m) (by lia) (by grind) hP;obtain⟨f1,f2,f3⟩:=M6 T (UK (m:=m) (by lia) (by grind) hP zP);have f4:=T.plain (k:=20) (by decide);have f5:=r_ (A8 (m:=m) (by lia) hP) (by (simp at *;lia));have lx:x.length<=16777216:=ä T.len (by decide);have lr:=hb r0 Ú;have cr:=iQ r0 Ú;have dr:mJ r0:=⟨cr,by lia⟩;have g1:=eO dr;have g2:=iJ dr;have g3:=Km dr (Kv (λy=>by grind) dr.2 cr) g2;have g4:=nB dr.2 (k:=20) (by decide);have g5:=r_ (p_ (k:=0) dr.2) (by decide);have r2:∀B,L5 [.int 2] B=.ok (aN 0 2,B):=λB=>jL 2 (by decide);have ex:(x==x)=M:=beq_self_eq_true x;have en:(bJ r0==bJ r0)=M:=beq_self_eq_true _;rw[å] at e2 e4;refine⟨J s4,J (.int m),J (.lst (au r0::rs.map au)),J P,J (.str x),J (au r0),?_⟩;unfold uR;simp only[Pzz,bF,Nat.reduceAdd,Nat.reduceSub,e0,e1,hm,r2,e2,pQ,p8,hz,e3,e4,f1,f2,gQ,ex,Ku lx,g6,g1,g2,g3,g4,g5,en,ū];by_cases c:(x.length:Int)<4001
 ·simp only[Pzz,bF,hG c,f3 (by lia),f5,f4,g6,g1,g2,g3,g4,g5,en,ū]
 ·simp only[Pzz,bF,hJ c,g6,g1,g2,g3,g4,g5,en,ū]
theorem pure_law (ns:List Int)(hl:ns.length<=63):Aq [.scr (ns.map .int)]=.ok (.bl M):=by
 obtain⟨z,hz⟩:∃z:Nat,(if (if (8:Int)<(((ns.map U.int).length:Nat):Int) then 8 else (((ns.map U.int).length:Nat):Int))>1 then (if (8:Int)<(((ns.map U.int).length:Nat):Int) then 8 else (((ns.map U.int).length:Nat):Int)) else 1)=z:=⟨(if (if (8:Int)<(((ns.map U.int).length:Nat):Int) then 8 else (((ns.map U.int).length:Nat):Int))>1 then (if (8:Int)<(((ns.map U.int).length:Nat):Int) then 8 else (((ns.map U.int).length:Nat):Int)) else 1).toNat,by split<;>(try split)<;>lia⟩;have zb:z<=1000:=by lia
 obtain⟨B',e,a,b,c,d,e',f,g,rfl⟩:=gW (us:=aN 0 z) (sg:=cx 1) (s:=uR) (λ_ B=>∃a b c d e f g:Option U,B=[J (.scr (ns.map .int)),a,b,c,d,e,f,g])
  (λi u B hu h00=>by
   obtain⟨a,b,c,d,e,f,g,hr⟩:=h00;subst hr;have hi:i<z:=by
    rcases ņ i z with y|y
    ·exact y
    simp_all[bx]
   obtain rfl:u=.int i:=by
    rw[oY,ă,ρ hi] at hu;cases hu;rfl
   obtain⟨a1,b1,c1,d1,e1,f1,q⟩:=M7 (ns:=ns) (i:=i) (x2:=b) (x3:=c) (x4:=d) (x5:=e) (x6:=f) (x7:=g);exact⟨_,_,rfl,.inl q,_,_,_,_,_,_,_,rfl⟩)
  (B:=[J (.scr (ns.map .int)),Z,Z,Z,Z,Z,Z,Z]) ⟨_,_,_,_,_,_,_,rfl⟩
 unfold Aq JG;simp only[Pzz,bF,Nat.reduceAdd,Nat.reduceSub,hz,jL z (by lia),e]
def wlkE {q:ø}{d:DefRec}{K:Params->Ê}(U0:d.params.defaults=[])(hY:∀(w:ß) (h:Í),YP w h->(K w.params).In h)(F:∀(w:ß) (mg:Str->Option ò) (fa:G) (h:Í),(K w.params).In h->h.Ns ç mg->mg d.name=J (.ref fa)->
   ∃fd:ĭ,(∀(s:Ã) (u:ò),BindsTo s fd ⟨[u],[]⟩ [("script",u)])/\∀base:Í,(K w.params).In base->base.Ns ç mg->fc PySem.Challenge.rw_hushcards_k81_plans_and_rows_written.prog w (K w.params) mg base kg 24 fa fd ["script"] (zo (K w.params))) :
  PySem.W.WalkO q loose XP YP PySem.Challenge.rw_hushcards_k81_plans_and_rows_written.row.toRowW d [] (λf vs=>PySem.call f vs):=
 _root_.L2.walk_of (l:=PySem.Challenge.rw_hushcards_k81_plans_and_rows_written) (n:=63) (k:=24) (x:="script") (CX:=λ_=>kg) (sp:=λw=>zo (K w.params)) rfl (by decide) U0 ⟨rfl,by decide,by decide⟩ hY F (λ_ _ a ns hl hO hS=>⟨a,ns,rfl,P9 hO hS,hl,λ_=>rfl⟩) λ_ _ _ _ _ z=>z
end Hc
open PySem PySem.W PyProof.Rows
set_option maxRecDepth 100000 in
set_option maxHeartbeats 0 in
theorem PySem.Challenge.cw_hushcards_k81_plans_and_rows_written_holds : PySem.Challenge.rw_hushcards_k81_plans_and_rows_written.Holds := by
 w_on
 refine PySem.W.holds_law (by decide+kernel) λX0=>?_;refine' PySem.W.holds_open Hc.left (PySem.W.Hook.of _) (PySem.W.Hook.keeps _) (XP:=PySem.W.XL Hc.vw [])
  (λs e=>PySem.W.xl_of s (Bool.and_eq_true_iff.mp e).1) PySem.W.XL.keeps ?d ?t ?k
  (λs e=>PySem.W.recFacts_of (Bool.and_eq_true_iff.mp e).2) ?w X0 ?g ⟨rfl,rfl,rfl,rfl,rfl,by decide+kernel⟩ ?hw ?hc
 case d=>rfl
 case t=>rfl
 case k=>rfl
 case w=>rfl
 case g=>rfl
 case hw=>w_witness2
 show PySem.W.WalkO Hc.vw ["FIGURES"] (PySem.W.XL Hc.vw []) (PySem.W.InK Hc.Kf) _ _ _ _
 k_fill
 refine Hc.wlkE rfl (λw h Yq=>Yq) ?F
 case F=>
  intro w mg fa h KX G U1;refine' Hc.all_mk KX G U1 ?Q ?_ ?_ ?_ ?_ ?_ ?_ ?_ ?_ ?_ ?_ ?_ ?_ ?_ ?_ ?_ ?_ ?_ ?_ ?_ ?_ ?XS ?XU ?Sb ?Sd ?Se ?Sf ?Sg ?Sh ?Si ?Sj ?Sk ?Sl ?Sm ?XW Hc.pure_law
  (case XS=>k_is)
  (case XU=>exact .mk (by k_is) (by k_is) (by k_is) (by k_is) (by k_is) (by k_is) (by k_is) (by k_is) (by k_is) (by k_is) (by k_is) (by k_is) (.cons (by k_is) (.cons (by k_is) .nil)))
  (case Sb=>exact .mk (by k_is) (by k_is) (by k_is) (by k_is) (by k_is))
  (case Sd=>exact .mk (by k_is) (by k_is) (by k_is) (by k_is) (by k_is))
  (case Se=>exact .mk (by k_is) (by k_is) (by k_is) (by k_is) (by k_is))
  (case Sf=>exact .mk (by k_is) (by k_is) (by k_is) (by k_is) (by k_is))
  (case Sg=>exact .mk (by k_is) (by k_is) (by k_is) (by k_is) (by k_is))
  (case Sh=>exact .mk (by k_is) (by k_is) (by k_is) (by k_is) (by k_is))
  (case Si=>exact .mk (by k_is) (by k_is) (by k_is) (by k_is) (by k_is))
  (case Sj=>exact .mk (by k_is) (by k_is) (by k_is) (by k_is) (by k_is))
  (case Sk=>exact .mk (by k_is) (by k_is) (by k_is) (by k_is) (by k_is))
  (case Sl=>exact .mk (by k_is) (by k_is) (by k_is) (by k_is))
  (case Sm=>exact .mk (by k_is) (by k_is) (by k_is) (by k_is))
  (case XW=>exact .mk (by k_is) (by k_is) rfl (.cons (.cons (.cons (.cons (.cons (.cons (.cons (.cons (.cons (.cons .nil)))))))))))
  (case Q=>constructor<;>exact .mk (by k_is) (by k_is) (by k_is) (by k_is))
  all_goals first|k_is|exact .mk (by k_is) (by k_is) (by k_is) (by k_is)|skip